
/- Proved: CidLeases returns true for every ring, lease, place and number, and changes no memory that was there. Conditions: none. -/
import Derived.Test.YtilgolflpdpfnaaCidL
namespace Go.Proofs.Ytilgolflpdpfnaa
open Go.ChangeShapes Go.WideShapes Go.ChangeAt Go.RowKit
structure GPlace where
  version : Int
  slot : Int
def GPlace.V (s : GPlace) : List Value := [.int .i64 s.version, .int .i64 s.slot]
theorem GPlace.len (s : GPlace) : s.V.length = 2 := rfl
def GPlace.ok (w : World) (s : GPlace) : Prop := (-9223372036854775808 ≤ s.version ∧ s.version ≤ 9223372036854775807) ∧ (-9223372036854775808 ≤ s.slot ∧ s.slot ≤ 9223372036854775807)
instance : Inhabited GPlace := ⟨⟨0, 0⟩⟩
set_option maxRecDepth 100000 in
theorem GPlace.open_t {H : Type} {enc : TypeId × Value → H} {w : World} {fuel : Nat} {cs : List Value} {x : DataW H × List MemPlace} (hf : DataW.trod enc Try.prog w 0 (fun _ => true) true fuel 88 cs = some x) (hlt : ∀ p ∈ x.2, p.block < w.heap.size) : ∃ s : GPlace, cs = s.V ∧ s.ok w := by
  have hC : Try.prog.cellsOf 88 = 2 := by kernel_rfl
  have hl := (DataW.trod_struct Try.underlying88 hf).choose_spec.choose_spec.2.2.1
  rw [hC] at hl
  obtain ⟨y0, k0, t0, b0⟩ := field_t Try.underlying88 hf hlt 0 _ rfl
  have hC0 : Try.prog.cellsOf 3 = 1 := by kernel_rfl
  obtain ⟨s0, e0, o0⟩ := t_i64 Try.underlying3 t0 b0
  have d0 := split_drop cs 0 1 (hC0 ▸ e0)
  obtain ⟨y1, k1, t1, b1⟩ := field_t Try.underlying88 hf hlt 1 _ rfl
  have hC1 : Try.prog.cellsOf 3 = 1 := by kernel_rfl
  obtain ⟨s1, e1, o1⟩ := t_i64 Try.underlying3 t1 b1
  have d1 := split_drop cs 1 1 (hC1 ▸ e1)
  refine ⟨⟨s0, s1⟩, ?_, ⟨o0, o1⟩⟩
  have dn : cs.drop 2 = [] := List.drop_eq_nil_of_le (by omega)
  rw [← List.drop_zero (l := cs)]
  refine d0.trans ?_
  rw [show cs.drop (0 + 1) = _ from d1]
  rw [show cs.drop (1 + 1) = [] from dn]
  rfl
set_option maxRecDepth 100000 in
theorem GPlace.open_a {H : Type} {enc : TypeId × Value → H} {w : World} {r : Reach} {b0 : Nat} {v : Value} {d : DataW H} {ps : List MemPlace} (hval : Value.okWide Try.prog w r b0 88 v) (hd : DataW.Trod enc Try.prog w 0 (fun _ => true) true 88 v d ps) (hlt : ∀ p ∈ ps, p.block < w.heap.size) : ∃ s : GPlace, v = .agg s.V.toArray ∧ s.ok w := by
  obtain ⟨cs, rfl, _⟩ := okWide_struct Try.underlying88 hval
  obtain ⟨fuel, hf⟩ := hd
  obtain ⟨s, e, h⟩ := GPlace.open_t hf hlt
  exact ⟨s, by rw [← e]; simp [Value.cells], h⟩
structure GLease where
  next : Nat
  end_ : Nat
def GLease.V (s : GLease) : List Value := [.int .u64 (s.next : Int), .int .u64 (s.end_ : Int)]
theorem GLease.len (s : GLease) : s.V.length = 2 := rfl
def GLease.ok (w : World) (s : GLease) : Prop := s.next < 18446744073709551616 ∧ s.end_ < 18446744073709551616
instance : Inhabited GLease := ⟨⟨0, 0⟩⟩
set_option maxRecDepth 100000 in
theorem GLease.open_t {H : Type} {enc : TypeId × Value → H} {w : World} {fuel : Nat} {cs : List Value} {x : DataW H × List MemPlace} (hf : DataW.trod enc Try.prog w 0 (fun _ => true) true fuel 98 cs = some x) (hlt : ∀ p ∈ x.2, p.block < w.heap.size) : ∃ s : GLease, cs = s.V ∧ s.ok w := by
  have hC : Try.prog.cellsOf 98 = 2 := by kernel_rfl
  have hl := (DataW.trod_struct Try.underlying98 hf).choose_spec.choose_spec.2.2.1
  rw [hC] at hl
  obtain ⟨y0, k0, t0, b0⟩ := field_t Try.underlying98 hf hlt 0 _ rfl
  have hC0 : Try.prog.cellsOf 24 = 1 := by kernel_rfl
  obtain ⟨s0, e0, o0⟩ := t_u64 Try.underlying24 t0 b0
  have d0 := split_drop cs 0 1 (hC0 ▸ e0)
  obtain ⟨y1, k1, t1, b1⟩ := field_t Try.underlying98 hf hlt 1 _ rfl
  have hC1 : Try.prog.cellsOf 24 = 1 := by kernel_rfl
  obtain ⟨s1, e1, o1⟩ := t_u64 Try.underlying24 t1 b1
  have d1 := split_drop cs 1 1 (hC1 ▸ e1)
  refine ⟨⟨s0, s1⟩, ?_, ⟨o0, o1⟩⟩
  have dn : cs.drop 2 = [] := List.drop_eq_nil_of_le (by omega)
  rw [← List.drop_zero (l := cs)]
  refine d0.trans ?_
  rw [show cs.drop (0 + 1) = _ from d1]
  rw [show cs.drop (1 + 1) = [] from dn]
  rfl
set_option maxRecDepth 100000 in
theorem GLease.open_a {H : Type} {enc : TypeId × Value → H} {w : World} {r : Reach} {b0 : Nat} {v : Value} {d : DataW H} {ps : List MemPlace} (hval : Value.okWide Try.prog w r b0 98 v) (hd : DataW.Trod enc Try.prog w 0 (fun _ => true) true 98 v d ps) (hlt : ∀ p ∈ ps, p.block < w.heap.size) : ∃ s : GLease, v = .agg s.V.toArray ∧ s.ok w := by
  obtain ⟨cs, rfl, _⟩ := okWide_struct Try.underlying98 hval
  obtain ⟨fuel, hf⟩ := hd
  obtain ⟨s, e, h⟩ := GLease.open_t hf hlt
  exact ⟨s, by rw [← e]; simp [Value.cells], h⟩
namespace CidLeases
def idsL (k : Nat → Nat) (b p n j : Nat) : List Value := (List.range j).map fun i => Value.string (bstr (idB k b p (n + i)))
theorem idsL_len (k : Nat → Nat) (b p n j : Nat) : (idsL k b p n j).length = j := by simp [idsL]
theorem idsL_get {k : Nat → Nat} {b p n j i : Nat} (h : i < j) : (idsL k b p n j)[i]? = some (.string (bstr (idB k b p (n + i)))) := by
  unfold idsL
  rw [List.getElem?_map, List.getElem?_range h]
  rfl
theorem idsL_snoc (k : Nat → Nat) (b p n j : Nat) : idsL k b p n j ++ [.string (bstr (idB k b p (n + j)))] = idsL k b p n (j + 1) := by
  unfold idsL
  rw [List.range_succ, List.map_append]
  rfl
theorem id_ne {k : Nat → Nat} {b p o o' : Nat} (h : o < o') (h2 : o' ≤ 1099511627775) : idB k b p o ≠ idB k b p o' := fun e => by
  have h5 : ∀ o, (idB k b p o).take 5 = be o 5 := fun o => by
    unfold idB idP
    rw [List.append_assoc]
    exact List.take_left' (be_length _ _)
  have e5 := congrArg (fun l => numBE (l.take 5)) e
  simp only [h5, numBE_be] at e5
  have e9 : (256 : Nat) ^ 5 = 1099511627776 := by decide
  rw [e9, Nat.mod_eq_of_lt (by omega), Nat.mod_eq_of_lt (by omega)] at e5
  omega
set_option maxRecDepth 100000 in
set_option maxHeartbeats 8000000 in
theorem walkC (k : Nat → Nat) (u n e : Nat) (v s : Int) (cut : Nat) (w0 : World) (hkb : Bytes (kL k)) (hu : u < 18446744073709551616) (hn : n < 18446744073709551616) (he : e < 18446744073709551616) (hct : cut < 18446744073709551616) :
    Calls Try.prog 11 #[.agg (rgC k u).toArray, .agg (lsV n e).toArray, .agg (plV v s).toArray, .int .u64 (cut : Int)] w0 fun e w' => e = .returned (.bool true) ∧ Below w0.heap.size w0 w' := by
  have hS := St.sv w0
  obtain ⟨a1, a2, b1, b2, er0, hC⟩ := CT.ex (leftN n e) n e cut
  have hCut := fun w => cut_g n e cut a1 a2 b1 b2 er0 w (by omega) (by omega) hC
  have hLn := fun w => lease_left_c n e w (by omega) (by omega)
  have hRn := fun w => rlease_left_c n e w (by omega) (by omega)
  have hle : leftN n e < cut ∨ n + cut ≤ 18446744073709551615 := by unfold leftN; split <;> omega
  unfold CT at hC
  generalize hL0 : leftN n e = L0 at *
  refine ent (n := 182) Try.func11 rfl rfl ?_
  refine wp_seq_k ?_; intro K1 hK1
  refine wlit ?_
  refine wl_e rfl ?_; intro K hK
  refine ow_box hS (tmA rfl rfl) rfl ?_
  clear hS; intro g0_0 w hg0_0 hS
  refine hK _ _ ?_; clear hK K
  refine wl_e rfl ?_; intro K hK
  refine ow_box hS (tmA rfl rfl) rfl ?_
  clear hS; intro g0_1 w hg0_1 hS
  refine hK _ _ ?_; clear hK K
  refine wl_e rfl ?_; intro K hK
  refine ow_box hS (tmA rfl rfl) rfl ?_
  clear hS; intro g0_2 w hg0_2 hS
  refine hK _ _ ?_; clear hK K
  refine wl_v (x_assign ev_c) ?_
  refine wl_nil ?_
  refine then_n (hK1 _ _ ?_); clear hK1 K1
  refine wp_seq_k ?_; intro K2 hK2
  refine wlit ?_
  refine wl_v (x_fa 0 Try.underlying66 rfl rfl ts_64 (tmP rfl rfl)) ?_
  refine wl_v (x_loadA (cs := [_, _, _, _, _, _, _, _, _, _, _, _, _, _, _, _]) Try.underlying64 rfl ts_64 (tmP rfl rfl) (rangeB hS.ok 2 rfl rfl)) ?_
  refine wl_v (x_fa 16 Try.underlying66 rfl rfl ts_24 (tmP rfl rfl)) ?_
  first
   | refine wl_v (x_load Try.underlying24 rfl (tmP rfl rfl) (cellB hS.ok 2 rfl rfl)) ?_
   | refine wl_v (x_load Try.underlying24 rfl (tmP rfl rfl) (cellB hS.ok 2 rfl (getm (by omega)))) ?_
  refine wl_e rfl ?_; intro K hK
  refine ow_call Try.func36 rfl rfl (evs_cons (tmA rfl rfl) <| evs_cons (tmI rfl rfl) <| evs_nil) (ring_new_c k u _) ?_
  rintro e w ⟨rfl, hk⟩
  refine ⟨_, rfl, ?_⟩
  replace hS := hS.kept hk
  clear hk
  refine hK _ _ ?_; clear hK K
  refine wl_e rfl ?_; intro K hK
  refine ow_alloc hS tz_69 rfl ?_
  clear hS; intro g1_5 w hg1_5 hS
  refine hK _ _ ?_; clear hK K
  refine wl_e rfl ?_; intro K hK
  refine ow_storeA hS 0 rfl ts_69 (tmP rfl rfl) (tmA rfl rfl) rfl rfl rfl ?_
  clear hS; intro w hS
  try replace hS := St.nm (M' := [.blk _ _ [_, _, _, _, _, _, _, _, _, _, _, _, _, _, _, _, _], .blk _ _ [_, _], .blk _ _ [_, _], .blk _ _ [_, _, _, _, _, _, _, _, _, _, _, _, _, _, _, _, _], _]) hS rfl
  refine hK _ _ ?_; clear hK K
  refine wl_nil ?_
  refine then_n (hK2 _ _ ?_); clear hK2 K2
  refine wp_seq_k ?_; intro K3 hK3
  refine wlit ?_
  refine wl_v (x_fa 0 Try.underlying98 rfl rfl ts_24 (tmP rfl rfl)) ?_
  first
   | refine wl_v (x_load Try.underlying24 rfl (tmP rfl rfl) (cellB hS.ok 2 rfl rfl)) ?_
   | refine wl_v (x_load Try.underlying24 rfl (tmP rfl rfl) (cellB hS.ok 2 rfl (getm (by omega)))) ?_
  refine wl_v (x_fa 1 Try.underlying98 rfl rfl ts_24 (tmP rfl rfl)) ?_
  first
   | refine wl_v (x_load Try.underlying24 rfl (tmP rfl rfl) (cellB hS.ok 2 rfl rfl)) ?_
   | refine wl_v (x_load Try.underlying24 rfl (tmP rfl rfl) (cellB hS.ok 2 rfl (getm (by omega)))) ?_
  refine wl_e rfl ?_; intro K hK
  refine ow_call Try.func53 rfl rfl (evs_cons (tmI rfl rfl) <| evs_cons (tmI rfl rfl) <| evs_nil) (hRn _) ?_
  rintro e w ⟨rfl, hk⟩
  refine ⟨_, rfl, ?_⟩
  replace hS := hS.kept hk
  clear hk
  refine hK _ _ ?_; clear hK K
  refine wl_v (x_assign (tmI rfl rfl)) ?_
  refine wl_nil ?_
  refine then_n (hK3 _ _ ?_); clear hK3 K3
  refine wp_seq_k ?_; intro K4 hK4
  refine wlit ?_
  refine wl_v (x_loadA (cs := [_, _]) Try.underlying98 rfl ts_98 (tmP rfl rfl) (rangeB hS.ok 2 rfl rfl)) ?_
  refine wl_v (x_move (tmI rfl rfl)) ?_
  refine wl_e rfl ?_; intro K hK
  refine ow_call Try.func54 rfl rfl (evs_cons (tmA rfl rfl) <| evs_cons (tmI rfl rfl) <| evs_nil) (hCut _) ?_
  rintro e w ⟨rfl, hk⟩
  refine ⟨_, rfl, ?_⟩
  replace hS := hS.kept hk
  clear hk
  refine hK _ _ ?_; clear hK K
  refine wl_v (x_move (tmT rfl rfl)) ?_
  refine wl_v (x_ext (tmT rfl rfl) rfl) ?_
  refine wl_v (x_ext (tmT rfl rfl) rfl) ?_
  refine wl_v (x_ext (tmT rfl rfl) rfl) ?_
  refine wl_e rfl ?_; intro K hK
  refine ow_alloc hS tz_98 rfl ?_
  clear hS; intro g3_7 w hg3_7 hS
  refine hK _ _ ?_; clear hK K
  refine wl_e rfl ?_; intro K hK
  refine ow_alloc hS tz_98 rfl ?_
  clear hS; intro g3_8 w hg3_8 hS
  refine hK _ _ ?_; clear hK K
  refine wl_e rfl ?_; intro K hK
  refine ow_storeA hS 1 rfl ts_98 (tmP rfl rfl) (tmA rfl rfl) rfl rfl rfl ?_
  clear hS; intro w hS
  refine hK _ _ ?_; clear hK K
  refine wl_e rfl ?_; intro K hK
  refine ow_storeA hS 0 rfl ts_98 (tmP rfl rfl) (tmA rfl rfl) rfl rfl rfl ?_
  clear hS; intro w hS
  refine hK _ _ ?_; clear hK K
  refine wl_v (x_assign (tmI rfl rfl)) ?_
  refine wl_nil ?_
  refine then_n (hK4 _ _ ?_); clear hK4 K4
  refine wp_seq_k ?_; intro K5 hK5
  refine wp_seq_k ?_; intro K6 hK6
  refine wlit ?_
  refine wl_v (x_loadA (cs := [_, _]) Try.underlying98 rfl ts_98 (tmP rfl rfl) (rangeB hS.ok 4 rfl rfl)) ?_
  refine wl_e rfl ?_; intro K hK
  refine ow_call Try.func55 rfl rfl (evs_cons (tmA rfl rfl) <| evs_nil) (hLn _) ?_
  rintro e w ⟨rfl, hk⟩
  refine ⟨_, rfl, ?_⟩
  replace hS := hS.kept hk
  clear hk
  refine hK _ _ ?_; clear hK K
  refine wl_v (x_move (tmI rfl rfl)) ?_
  refine wl_v (x_neq (tmI rfl rfl) (tmI rfl rfl)) ?_
  refine wl_v (x_move (tmB rfl rfl)) ?_
  refine gs_wl (tm (t := 42) rfl) (fun hg4_4 => ?_) (fun hg4_4 => ?_)
  · exfalso
    simp at hg4_4
  have hg4_4' := hg4_4; (try simp only [nrm] at hg4_4'); try (exfalso; first | with_reducible exact absurd hg4_4 Bool.false_ne_true | with_reducible exact absurd hg4_4.symm Bool.false_ne_true | omega | (simp at hg4_4; done))
  all_goals
   refine wl_gv (want_y rfl rfl rfl rfl (by rw [hg4_4]; rfl)) (x_move (tmI rfl rfl)) ?_
   refine wl_gv (want_y rfl rfl rfl rfl (by rw [hg4_4]; rfl)) (x_eql (tmI rfl rfl) (ev_cN 0)) ?_
   refine wl_gv (want_y rfl rfl rfl rfl (by rw [hg4_4]; rfl)) (x_move (tmI rfl rfl)) ?_
   refine wl_gv (want_y rfl rfl rfl rfl (by rw [hg4_4]; rfl)) (x_move (tmI rfl rfl)) ?_
   refine wl_gv (want_y rfl rfl rfl rfl (by rw [hg4_4]; rfl)) (x_leq (tmI rfl rfl) (tmI rfl rfl)) ?_
   refine wl_gv (want_y rfl rfl rfl rfl (by rw [hg4_4]; rfl)) (x_bneq Try.underlying4 (tmB rfl rfl) (tmB rfl rfl)) ?_
   refine wl_v (x_pickF (tmB rfl rfl) hg4_4 (tmB rfl rfl)) ?_
   refine wl_nil ?_
   refine then_n (hK6 _ _ ?_); clear hK6 K6
   refine cnd (tm rfl) (fun hc0 => ?_) (fun hc0 => ?_)
   · exfalso
     simp at hc0
     omega
   try (exfalso; first | with_reducible exact absurd hc0 Bool.false_ne_true | with_reducible exact absurd hc0.symm Bool.false_ne_true | (simp only [nrm] at hc0; omega) | (simp at hc0; done))
   all_goals
    try simp only [nrm] at hc0
    refine wp_skip ?_
    refine then_n (hK5 _ _ ?_); clear hK5 K5
    refine wp_seq_k ?_; intro K7 hK7
    refine wp_seq_k ?_; intro K8 hK8
    refine cutc [50, 51, 52, 53, 54, 55, 56, 57, 58, 59, 60, 61, 62, 63, 64, 65, 66, 67, 68, 69, 70, 71, 72, 73, 74, 75, 76, 77, 78, 79, 80, 81, 82, 83, 84, 85, 86, 87, 88, 89, 90, 91] (fun g w => g 91 = .bool false ∧ St [] w0 [.blk g1_5 69 (rgC k u), .blk g0_2 88 (plV v s), .blk g0_1 98 (lsV n e), .blk g0_0 66 (rgC k u)] w) ?_ ?_
    · skip
      refine wlit ?_
      refine wl_v (x_move (tmI rfl rfl)) ?_
      refine wl_v (x_eql (tmI rfl rfl) (ev_cN 0)) ?_
      refine wl_v (x_move (tmB rfl rfl)) ?_
      refine gs_wl (tm (t := 52) rfl) (fun hg6_2 => ?_) (fun hg6_2 => ?_)
      · have hg6_2' := hg6_2; (try simp only [nrm] at hg6_2'); try (exfalso; first | with_reducible exact absurd hg6_2 Bool.false_ne_true | with_reducible exact absurd hg6_2.symm Bool.false_ne_true | omega | (simp at hg6_2; done))
        all_goals
         refine wl_gv (want_y rfl rfl rfl rfl (by rw [hg6_2]; rfl)) (x_loadA (cs := [_, _]) Try.underlying98 rfl ts_98 (tmP rfl rfl) (rangeB hS.ok 1 rfl rfl)) ?_
         refine wl_gv (want_y rfl rfl rfl rfl (by rw [hg6_2]; rfl)) (x_fa 0 Try.underlying98 rfl rfl ts_24 (tmP rfl rfl)) ?_
         first
          | refine wl_gv (want_y rfl rfl rfl rfl (by rw [hg6_2]; rfl)) (x_load Try.underlying24 rfl (tmP rfl rfl) (cellB hS.ok 4 rfl rfl)) ?_
          | refine wl_gv (want_y rfl rfl rfl rfl (by rw [hg6_2]; rfl)) (x_load Try.underlying24 rfl (tmP rfl rfl) (cellB hS.ok 4 rfl (getm (by omega)))) ?_
         refine wl_gv (want_y rfl rfl rfl rfl (by rw [hg6_2]; rfl)) (x_fa 0 Try.underlying98 rfl rfl ts_24 (tmP rfl rfl)) ?_
         first
          | refine wl_gv (want_y rfl rfl rfl rfl (by rw [hg6_2]; rfl)) (x_load Try.underlying24 rfl (tmP rfl rfl) (cellB hS.ok 4 rfl rfl)) ?_
          | refine wl_gv (want_y rfl rfl rfl rfl (by rw [hg6_2]; rfl)) (x_load Try.underlying24 rfl (tmP rfl rfl) (cellB hS.ok 4 rfl (getm (by omega)))) ?_
         refine wl_gv (want_y rfl rfl rfl rfl (by rw [hg6_2]; rfl)) (x_move (tmI rfl rfl)) ?_
         first
          | refine wl_gv (want_y rfl rfl rfl rfl (by rw [hg6_2]; rfl)) (x_addN (tmI rfl rfl) (tmI rfl rfl) (fit_u64 (by omega))) ?_
          | refine wl_gv (want_y rfl rfl rfl rfl (by rw [hg6_2]; rfl)) (x_addI (tmI rfl rfl) (tmI rfl rfl) (IntWalk.u64_in _ (by omega))) ?_
          | refine wl_gv (want_y rfl rfl rfl rfl (by rw [hg6_2]; rfl)) (x_addU (tmI rfl rfl) (tmI rfl rfl) rfl) ?_
          | refine wl_gv (want_y rfl rfl rfl rfl (by rw [hg6_2]; rfl)) (x_add (tmI rfl rfl) (tmI rfl rfl)) ?_
         refine wl_gv (want_y rfl rfl rfl rfl (by rw [hg6_2]; rfl)) (x_build (bc_take (tmI rfl rfl) <| bc_take (tmI rfl rfl) <| bc_nil) (by kernel_rfl)) ?_
         refine wl_gv (want_y rfl rfl rfl rfl (by rw [hg6_2]; rfl)) (x_Aneq (by kernel_rfl) (tmA rfl rfl) (tmA rfl rfl) (eqv_A Try.underlying98 (by kernel_rfl) (fe_cons rfl (pt_1 Try.underlying24 rfl rfl) (pt_1 Try.underlying24 rfl rfl) (eqv_i Try.underlying24) <| fe_cons rfl (pt_1 Try.underlying24 rfl rfl) (pt_1 Try.underlying24 rfl rfl) (eqv_i Try.underlying24) <| fe_nil))) ?_
         refine wl_gv (want_y rfl rfl rfl rfl (by rw [hg6_2]; rfl)) (x_move (tmB rfl rfl)) ?_
         refine gs_wl (tm (t := 62) rfl) (fun hg6_12 => ?_) (fun hg6_12 => ?_)
         · exfalso
           simp at hg6_12
           omega
         have hg6_12' := hg6_12; (try simp only [nrm] at hg6_12'); try (exfalso; first | with_reducible exact absurd hg6_12 Bool.false_ne_true | with_reducible exact absurd hg6_12.symm Bool.false_ne_true | omega | (simp at hg6_12; done))
         all_goals
          refine wl_gv (want_y rfl rfl rfl rfl (by rw [hg6_12]; rfl)) (x_loadA (cs := [_, _]) Try.underlying98 rfl ts_98 (tmP rfl rfl) (rangeB hS.ok 0 rfl rfl)) ?_
          refine wl_gv (want_y rfl rfl rfl rfl (by rw [hg6_12]; rfl)) (x_fa 0 Try.underlying98 rfl rfl ts_24 (tmP rfl rfl)) ?_
          first
           | refine wl_gv (want_y rfl rfl rfl rfl (by rw [hg6_12]; rfl)) (x_load Try.underlying24 rfl (tmP rfl rfl) (cellB hS.ok 4 rfl rfl)) ?_
           | refine wl_gv (want_y rfl rfl rfl rfl (by rw [hg6_12]; rfl)) (x_load Try.underlying24 rfl (tmP rfl rfl) (cellB hS.ok 4 rfl (getm (by omega)))) ?_
          refine wl_gv (want_y rfl rfl rfl rfl (by rw [hg6_12]; rfl)) (x_move (tmI rfl rfl)) ?_
          first
           | refine wl_gv (want_y rfl rfl rfl rfl (by rw [hg6_12]; rfl)) (x_addN (tmI rfl rfl) (tmI rfl rfl) (fit_u64 (by omega))) ?_
           | refine wl_gv (want_y rfl rfl rfl rfl (by rw [hg6_12]; rfl)) (x_addI (tmI rfl rfl) (tmI rfl rfl) (IntWalk.u64_in _ (by omega))) ?_
           | refine wl_gv (want_y rfl rfl rfl rfl (by rw [hg6_12]; rfl)) (x_addU (tmI rfl rfl) (tmI rfl rfl) rfl) ?_
           | refine wl_gv (want_y rfl rfl rfl rfl (by rw [hg6_12]; rfl)) (x_add (tmI rfl rfl) (tmI rfl rfl)) ?_
          refine wl_gv (want_y rfl rfl rfl rfl (by rw [hg6_12]; rfl)) (x_fa 1 Try.underlying98 rfl rfl ts_24 (tmP rfl rfl)) ?_
          first
           | refine wl_gv (want_y rfl rfl rfl rfl (by rw [hg6_12]; rfl)) (x_load Try.underlying24 rfl (tmP rfl rfl) (cellB hS.ok 4 rfl rfl)) ?_
           | refine wl_gv (want_y rfl rfl rfl rfl (by rw [hg6_12]; rfl)) (x_load Try.underlying24 rfl (tmP rfl rfl) (cellB hS.ok 4 rfl (getm (by omega)))) ?_
          refine wl_gv (want_y rfl rfl rfl rfl (by rw [hg6_12]; rfl)) (x_build (bc_take (tmI rfl rfl) <| bc_take (tmI rfl rfl) <| bc_nil) (by kernel_rfl)) ?_
          refine wl_gv (want_y rfl rfl rfl rfl (by rw [hg6_12]; rfl)) (x_Aneq (by kernel_rfl) (tmA rfl rfl) (tmA rfl rfl) (eqv_A Try.underlying98 (by kernel_rfl) (fe_cons rfl (pt_1 Try.underlying24 rfl rfl) (pt_1 Try.underlying24 rfl rfl) (eqv_i Try.underlying24) <| fe_cons rfl (pt_1 Try.underlying24 rfl rfl) (pt_1 Try.underlying24 rfl rfl) (eqv_i Try.underlying24) <| fe_nil))) ?_
          refine wl_gv (want_y rfl rfl rfl rfl (by rw [hg6_2]; rfl)) (x_pickF (tmB rfl rfl) hg6_12 (tmB rfl rfl)) ?_
          refine wl_v (x_pickT (tmB rfl rfl) hg6_2 (tmB rfl rfl)) ?_
          refine wl_v (x_move (tmB rfl rfl)) ?_
          refine gs_wl (tm (t := 74) rfl) (fun hg6_24 => ?_) (fun hg6_24 => ?_)
          · exfalso
            simp at hg6_24
            omega
          have hg6_24' := hg6_24; (try simp only [nrm] at hg6_24'); try (exfalso; first | with_reducible exact absurd hg6_24 Bool.false_ne_true | with_reducible exact absurd hg6_24.symm Bool.false_ne_true | omega | (simp at hg6_24; done))
          all_goals
           refine wl_gv (want_y rfl rfl rfl rfl (by rw [hg6_24]; rfl)) (x_move (tmI rfl rfl)) ?_
           refine wl_gv (want_y rfl rfl rfl rfl (by rw [hg6_24]; rfl)) (x_neq (tmI rfl rfl) (ev_cN 0)) ?_
           refine wl_gv (want_y rfl rfl rfl rfl (by rw [hg6_24]; rfl)) (x_move (tmB rfl rfl)) ?_
           refine gs_wl (tm (t := 77) rfl) (fun hg6_27 => ?_) (fun hg6_27 => ?_)
           · have hg6_27' := hg6_27; (try simp only [nrm] at hg6_27'); try (exfalso; first | with_reducible exact absurd hg6_27 Bool.false_ne_true | with_reducible exact absurd hg6_27.symm Bool.false_ne_true | omega | (simp at hg6_27; done))
             all_goals
              refine wl_gv (want_y rfl rfl rfl rfl (by rw [hg6_27]; rfl)) (x_move (tmI rfl rfl)) ?_
              refine wl_gv (want_y rfl rfl rfl rfl (by rw [hg6_27]; rfl)) (x_neq (tmI rfl rfl) (ev_cN 6)) ?_
              refine wl_gv (want_y rfl rfl rfl rfl (by rw [hg6_27]; rfl)) (x_move (tmB rfl rfl)) ?_
              refine gs_wl (tm (t := 80) rfl) (fun hg6_30 => ?_) (fun hg6_30 => ?_)
              · exfalso
                simp at hg6_30
                omega
              have hg6_30' := hg6_30; (try simp only [nrm] at hg6_30'); try (exfalso; first | with_reducible exact absurd hg6_30 Bool.false_ne_true | with_reducible exact absurd hg6_30.symm Bool.false_ne_true | omega | (simp at hg6_30; done))
              all_goals
               refine wl_gv (want_y rfl rfl rfl rfl (by rw [hg6_30]; rfl)) (x_loadA (cs := [_, _]) Try.underlying98 rfl ts_98 (tmP rfl rfl) (rangeB hS.ok 1 rfl rfl)) ?_
               refine wl_gv (want_y rfl rfl rfl rfl (by rw [hg6_30]; rfl)) (x_build (bc_skip (.int .u64 0) <| bc_skip (.int .u64 0) <| bc_nil) (by kernel_rfl)) ?_
               refine wl_gv (want_y rfl rfl rfl rfl (by rw [hg6_30]; rfl)) (x_Aneq (by kernel_rfl) (tmA rfl rfl) (tmA rfl rfl) (eqv_A Try.underlying98 (by kernel_rfl) (fe_cons rfl (pt_1 Try.underlying24 rfl rfl) (pt_1 Try.underlying24 rfl rfl) (eqv_i Try.underlying24) <| fe_cons rfl (pt_1 Try.underlying24 rfl rfl) (pt_1 Try.underlying24 rfl rfl) (eqv_i Try.underlying24) <| fe_nil))) ?_
               refine wl_gv (want_y rfl rfl rfl rfl (by rw [hg6_27]; rfl)) (x_pickF (tmB rfl rfl) hg6_30 (tmB rfl rfl)) ?_
               refine wl_gv (want_y rfl rfl rfl rfl (by rw [hg6_27]; rfl)) (x_move (tmB rfl rfl)) ?_
               refine gs_wl (tm (t := 85) rfl) (fun hg6_35 => ?_) (fun hg6_35 => ?_)
               · exfalso
                 simp at hg6_35
                 omega
               have hg6_35' := hg6_35; (try simp only [nrm] at hg6_35'); try (exfalso; first | with_reducible exact absurd hg6_35 Bool.false_ne_true | with_reducible exact absurd hg6_35.symm Bool.false_ne_true | omega | (simp at hg6_35; done))
               all_goals
                refine wl_gv (want_y rfl rfl rfl rfl (by rw [hg6_35]; rfl)) (x_loadA (cs := [_, _]) Try.underlying98 rfl ts_98 (tmP rfl rfl) (rangeB hS.ok 0 rfl rfl)) ?_
                refine wl_gv (want_y rfl rfl rfl rfl (by rw [hg6_35]; rfl)) (x_loadA (cs := [_, _]) Try.underlying98 rfl ts_98 (tmP rfl rfl) (rangeB hS.ok 4 rfl rfl)) ?_
                refine wl_gv (want_y rfl rfl rfl rfl (by rw [hg6_35]; rfl)) (x_Aneq (by kernel_rfl) (tmA rfl rfl) (tmA rfl rfl) (eqv_A Try.underlying98 (by kernel_rfl) (fe_cons rfl (pt_1 Try.underlying24 rfl rfl) (pt_1 Try.underlying24 rfl rfl) (eqv_i Try.underlying24) <| fe_cons rfl (pt_1 Try.underlying24 rfl rfl) (pt_1 Try.underlying24 rfl rfl) (eqv_i Try.underlying24) <| fe_nil))) ?_
                refine wl_gv (want_y rfl rfl rfl rfl (by rw [hg6_27]; rfl)) (x_pickF (tmB rfl rfl) hg6_35 (tmB rfl rfl)) ?_
                refine wl_gv (want_y rfl rfl rfl rfl (by rw [hg6_24]; rfl)) (x_pickT (tmB rfl rfl) hg6_27 (tmB rfl rfl)) ?_
                refine wl_v (x_pickF (tmB rfl rfl) hg6_24 (tmB rfl rfl)) ?_
                refine wl_nil ?_
                exact then_n ⟨_, rfl, (by repeat (first | exact agree_self | exact agree_refl | refine agree_upd rfl ?_ | refine agree_mix rfl ?_)), (by first | rfl | (exact congrArg Value.bool (by simp; omega); done) | (exact congrArg Value.bool (by simp; omega); rfl) | (exact congrArg Value.bool (by simp; omega); go_num)), (hS.pick [2, 3, 4, 5] rfl rfl)⟩
           have hg6_27' := hg6_27; (try simp only [nrm] at hg6_27'); try (exfalso; first | with_reducible exact absurd hg6_27 Bool.false_ne_true | with_reducible exact absurd hg6_27.symm Bool.false_ne_true | omega | (simp at hg6_27; done))
           all_goals
            refine wl_s rfl (want_n rfl rfl rfl rfl (by rw [hg6_27]; rfl)) ?_
            refine wl_s rfl (want_n rfl rfl rfl rfl (by rw [hg6_27]; rfl)) ?_
            refine wl_s rfl (want_n rfl rfl rfl rfl (by rw [hg6_27]; rfl)) ?_
            refine wl_s rfl (want_u rfl rfl rfl rfl) ?_
            refine wl_s rfl (want_u rfl rfl rfl rfl) ?_
            refine wl_s rfl (want_u rfl rfl rfl rfl) ?_
            refine wl_s rfl (want_n rfl rfl rfl rfl (by rw [hg6_27]; rfl)) ?_
            refine wl_s rfl (want_n rfl rfl rfl rfl (by rw [hg6_27]; rfl)) ?_
            refine wl_s rfl (want_u rfl rfl rfl rfl) ?_
            refine wl_s rfl (want_u rfl rfl rfl rfl) ?_
            refine wl_s rfl (want_u rfl rfl rfl rfl) ?_
            refine wl_s rfl (want_n rfl rfl rfl rfl (by rw [hg6_27]; rfl)) ?_
            refine wl_gv (want_y rfl rfl rfl rfl (by rw [hg6_24]; rfl)) (x_pickF (tmB rfl rfl) hg6_27 ev_c) ?_
            refine wl_v (x_pickF (tmB rfl rfl) hg6_24 (tmB rfl rfl)) ?_
            refine wl_nil ?_
            exact then_n ⟨_, rfl, (by repeat (first | exact agree_self | exact agree_refl | refine agree_upd rfl ?_ | refine agree_mix rfl ?_)), (by first | rfl | (exact congrArg Value.bool (by simp; omega); done) | (exact congrArg Value.bool (by simp; omega); rfl) | (exact congrArg Value.bool (by simp; omega); go_num)), (hS.pick [2, 3, 4, 5] rfl rfl)⟩
      have hg6_2' := hg6_2; (try simp only [nrm] at hg6_2'); try (exfalso; first | with_reducible exact absurd hg6_2 Bool.false_ne_true | with_reducible exact absurd hg6_2.symm Bool.false_ne_true | omega | (simp at hg6_2; done))
      all_goals
       refine wl_s rfl (want_n rfl rfl rfl rfl (by rw [hg6_2]; rfl)) ?_
       refine wl_s rfl (want_n rfl rfl rfl rfl (by rw [hg6_2]; rfl)) ?_
       refine wl_s rfl (want_n rfl rfl rfl rfl (by rw [hg6_2]; rfl)) ?_
       refine wl_s rfl (want_n rfl rfl rfl rfl (by rw [hg6_2]; rfl)) ?_
       refine wl_s rfl (want_n rfl rfl rfl rfl (by rw [hg6_2]; rfl)) ?_
       refine wl_s rfl (want_n rfl rfl rfl rfl (by rw [hg6_2]; rfl)) ?_
       refine wl_s rfl (want_n rfl rfl rfl rfl (by rw [hg6_2]; rfl)) ?_
       refine wl_s rfl (want_n rfl rfl rfl rfl (by rw [hg6_2]; rfl)) ?_
       refine wl_s rfl (want_n rfl rfl rfl rfl (by rw [hg6_2]; rfl)) ?_
       refine wl_s rfl (want_n rfl rfl rfl rfl (by rw [hg6_2]; rfl)) ?_
       refine wl_s rfl (want_u rfl rfl rfl rfl) ?_
       refine wl_s rfl (want_u rfl rfl rfl rfl) ?_
       refine wl_s rfl (want_u rfl rfl rfl rfl) ?_
       refine wl_s rfl (want_u rfl rfl rfl rfl) ?_
       refine wl_s rfl (want_u rfl rfl rfl rfl) ?_
       refine wl_s rfl (want_u rfl rfl rfl rfl) ?_
       refine wl_s rfl (want_u rfl rfl rfl rfl) ?_
       refine wl_s rfl (want_u rfl rfl rfl rfl) ?_
       refine wl_s rfl (want_u rfl rfl rfl rfl) ?_
       refine wl_s rfl (want_n rfl rfl rfl rfl (by rw [hg6_2]; rfl)) ?_
       refine wl_v (x_pickF (tmB rfl rfl) hg6_2 ev_c) ?_
       refine wl_v (x_move (tmB rfl rfl)) ?_
       refine wl_gv (want_y rfl rfl rfl rfl rfl) (x_move (tmI rfl rfl)) ?_
       refine wl_gv (want_y rfl rfl rfl rfl rfl) (x_neq (tmI rfl rfl) (ev_cN 0)) ?_
       refine wl_gv (want_y rfl rfl rfl rfl rfl) (x_move (tmB rfl rfl)) ?_
       refine gs_wl (tm (t := 77) rfl) (fun hg6_27 => ?_) (fun hg6_27 => ?_)
       · have hg6_27' := hg6_27; (try simp only [nrm] at hg6_27'); try (exfalso; first | with_reducible exact absurd hg6_27 Bool.false_ne_true | with_reducible exact absurd hg6_27.symm Bool.false_ne_true | omega | (simp at hg6_27; done))
         all_goals
          refine wl_gv (want_y rfl rfl rfl rfl (by rw [hg6_27]; rfl)) (x_move (tmI rfl rfl)) ?_
          refine wl_gv (want_y rfl rfl rfl rfl (by rw [hg6_27]; rfl)) (x_neq (tmI rfl rfl) (ev_cN 6)) ?_
          refine wl_gv (want_y rfl rfl rfl rfl (by rw [hg6_27]; rfl)) (x_move (tmB rfl rfl)) ?_
          refine gs_wl (tm (t := 80) rfl) (fun hg6_30 => ?_) (fun hg6_30 => ?_)
          · exfalso
            simp at hg6_30
            omega
          have hg6_30' := hg6_30; (try simp only [nrm] at hg6_30'); try (exfalso; first | with_reducible exact absurd hg6_30 Bool.false_ne_true | with_reducible exact absurd hg6_30.symm Bool.false_ne_true | omega | (simp at hg6_30; done))
          all_goals
           refine wl_gv (want_y rfl rfl rfl rfl (by rw [hg6_30]; rfl)) (x_loadA (cs := [_, _]) Try.underlying98 rfl ts_98 (tmP rfl rfl) (rangeB hS.ok 1 rfl rfl)) ?_
           refine wl_gv (want_y rfl rfl rfl rfl (by rw [hg6_30]; rfl)) (x_build (bc_skip (.int .u64 0) <| bc_skip (.int .u64 0) <| bc_nil) (by kernel_rfl)) ?_
           refine wl_gv (want_y rfl rfl rfl rfl (by rw [hg6_30]; rfl)) (x_Aneq (by kernel_rfl) (tmA rfl rfl) (tmA rfl rfl) (eqv_A Try.underlying98 (by kernel_rfl) (fe_cons rfl (pt_1 Try.underlying24 rfl rfl) (pt_1 Try.underlying24 rfl rfl) (eqv_i Try.underlying24) <| fe_cons rfl (pt_1 Try.underlying24 rfl rfl) (pt_1 Try.underlying24 rfl rfl) (eqv_i Try.underlying24) <| fe_nil))) ?_
           refine wl_gv (want_y rfl rfl rfl rfl (by rw [hg6_27]; rfl)) (x_pickF (tmB rfl rfl) hg6_30 (tmB rfl rfl)) ?_
           refine wl_gv (want_y rfl rfl rfl rfl (by rw [hg6_27]; rfl)) (x_move (tmB rfl rfl)) ?_
           refine gs_wl (tm (t := 85) rfl) (fun hg6_35 => ?_) (fun hg6_35 => ?_)
           · exfalso
             simp at hg6_35
             omega
           have hg6_35' := hg6_35; (try simp only [nrm] at hg6_35'); try (exfalso; first | with_reducible exact absurd hg6_35 Bool.false_ne_true | with_reducible exact absurd hg6_35.symm Bool.false_ne_true | omega | (simp at hg6_35; done))
           all_goals
            refine wl_gv (want_y rfl rfl rfl rfl (by rw [hg6_35]; rfl)) (x_loadA (cs := [_, _]) Try.underlying98 rfl ts_98 (tmP rfl rfl) (rangeB hS.ok 0 rfl rfl)) ?_
            refine wl_gv (want_y rfl rfl rfl rfl (by rw [hg6_35]; rfl)) (x_loadA (cs := [_, _]) Try.underlying98 rfl ts_98 (tmP rfl rfl) (rangeB hS.ok 4 rfl rfl)) ?_
            refine wl_gv (want_y rfl rfl rfl rfl (by rw [hg6_35]; rfl)) (x_Aneq (by kernel_rfl) (tmA rfl rfl) (tmA rfl rfl) (eqv_A Try.underlying98 (by kernel_rfl) (fe_cons rfl (pt_1 Try.underlying24 rfl rfl) (pt_1 Try.underlying24 rfl rfl) (eqv_i Try.underlying24) <| fe_cons rfl (pt_1 Try.underlying24 rfl rfl) (pt_1 Try.underlying24 rfl rfl) (eqv_i Try.underlying24) <| fe_nil))) ?_
            refine wl_gv (want_y rfl rfl rfl rfl (by rw [hg6_27]; rfl)) (x_pickF (tmB rfl rfl) hg6_35 (tmB rfl rfl)) ?_
            refine wl_gv (want_y rfl rfl rfl rfl rfl) (x_pickT (tmB rfl rfl) hg6_27 (tmB rfl rfl)) ?_
            refine wl_v (x_pickF (tmB rfl rfl) rfl (tmB rfl rfl)) ?_
            refine wl_nil ?_
            exact then_n ⟨_, rfl, (by repeat (first | exact agree_self | exact agree_refl | refine agree_upd rfl ?_ | refine agree_mix rfl ?_)), (by first | rfl | (exact congrArg Value.bool (by simp; omega); done) | (exact congrArg Value.bool (by simp; omega); rfl) | (exact congrArg Value.bool (by simp; omega); go_num)), (hS.pick [2, 3, 4, 5] rfl rfl)⟩
       have hg6_27' := hg6_27; (try simp only [nrm] at hg6_27'); try (exfalso; first | with_reducible exact absurd hg6_27 Bool.false_ne_true | with_reducible exact absurd hg6_27.symm Bool.false_ne_true | omega | (simp at hg6_27; done))
       all_goals
        refine wl_s rfl (want_n rfl rfl rfl rfl (by rw [hg6_27]; rfl)) ?_
        refine wl_s rfl (want_n rfl rfl rfl rfl (by rw [hg6_27]; rfl)) ?_
        refine wl_s rfl (want_n rfl rfl rfl rfl (by rw [hg6_27]; rfl)) ?_
        refine wl_s rfl (want_u rfl rfl rfl rfl) ?_
        refine wl_s rfl (want_u rfl rfl rfl rfl) ?_
        refine wl_s rfl (want_u rfl rfl rfl rfl) ?_
        refine wl_s rfl (want_n rfl rfl rfl rfl (by rw [hg6_27]; rfl)) ?_
        refine wl_s rfl (want_n rfl rfl rfl rfl (by rw [hg6_27]; rfl)) ?_
        refine wl_s rfl (want_u rfl rfl rfl rfl) ?_
        refine wl_s rfl (want_u rfl rfl rfl rfl) ?_
        refine wl_s rfl (want_u rfl rfl rfl rfl) ?_
        refine wl_s rfl (want_n rfl rfl rfl rfl (by rw [hg6_27]; rfl)) ?_
        refine wl_gv (want_y rfl rfl rfl rfl rfl) (x_pickF (tmB rfl rfl) hg6_27 ev_c) ?_
        refine wl_v (x_pickF (tmB rfl rfl) rfl (tmB rfl rfl)) ?_
        refine wl_nil ?_
        exact then_n ⟨_, rfl, (by repeat (first | exact agree_self | exact agree_refl | refine agree_upd rfl ?_ | refine agree_mix rfl ?_)), (by first | rfl | (exact congrArg Value.bool (by simp; omega); done) | (exact congrArg Value.bool (by simp; omega); rfl) | (exact congrArg Value.bool (by simp; omega); go_num)), (hS.pick [2, 3, 4, 5] rfl rfl)⟩
    · clear hS; intro g w hI
      obtain ⟨hs91, hS⟩ := hI
      refine fr_knowQ (d := 91) hs91 ?_; clear hs91
      refine then_n (hK8 _ _ ?_); clear hK8 K8
      refine cnd (tm rfl) (fun hc1 => ?_) (fun hc1 => ?_)
      · try (exfalso; first | with_reducible exact absurd hc1 Bool.false_ne_true | with_reducible exact absurd hc1.symm Bool.false_ne_true | (simp only [nrm] at hc1; omega) | (simp at hc1; done))
        all_goals
         try simp only [nrm] at hc1
         refine wp_seq_k ?_; intro K10 hK10
         refine wlit ?_
         refine wl_v (x_assign ev_c) ?_
         refine wl_nil ?_
         refine then_n (hK10 _ _ ?_); clear hK10 K10
         refine wp_ret ?_
         refine then_r ?_
         refine ret1 rfl (.tmp rfl (show _ = Value.bool _ from rfl)) ?_
         exact ⟨rfl, hS.kp.below⟩
      try (exfalso; first | with_reducible exact absurd hc1 Bool.false_ne_true | with_reducible exact absurd hc1.symm Bool.false_ne_true | (simp only [nrm] at hc1; omega) | (simp at hc1; done))
      all_goals
       try simp only [nrm] at hc1
       refine wp_skip ?_
       refine then_n (hK7 _ _ ?_); clear hK7 K7
       refine wp_seq_k ?_; intro K11 hK11
       refine wlit ?_
       refine wl_v (x_assign ev_c) ?_
       refine wl_nil ?_
       refine then_n (hK11 _ _ ?_); clear hK11 K11
       refine wp_seq_k ?_; intro K12 hK12
       refine wp_seq_k ?_; intro K13 hK13
       refine wlit ?_
       refine wl_v (x_assign (ev_cN 0)) ?_
       refine wl_nil ?_
       refine then_n (hK13 _ _ ?_); clear hK13 K13
       refine wp_block ?_
       have hS := hS.nilrow 9 1
       refine lp [8, 14, 15, 16, 17, 18, 19, 20, 92, 93, 94, 95, 96, 97, 98, 99, 100, 101, 102, 103, 104, 105, 106, 107, 108, 109, 110, 111, 112, 113, 114, 115, 116, 117, 118, 119, 120, 121, 122, 123, 124, 125, 126, 127, 128, 129, 130, 131, 132, 133, 134, 135, 136, 137, 138, 139, 140, 141, 142, 143, 144, 145, 146, 147, 148, 149, 150, 151, 152, 153, 154, 155, 156, 157, 158, 159, 160, 161, 162, 163, 164, 165, 166, 167, 168, 169, 170, 171, 172, 173, 174, 175, 176, 177, 178, 179, 180] (fun mz g w => ∃ (j : Nat), ∃ (A' : Option Addr), ∃ (c' : Nat), mz = 4 - j ∧ g 15 = .int .i64 (j : Int) ∧ g 14 = .slice A' j c' ∧ St [] w0 [.row (.slice A' j c') 9 1 j (idsL (derF k u) (u % 2) (plN v s) n j), .blk g1_5 69 (rgC k u), .blk g0_2 88 (plV v s), .blk g0_1 98 (lsV (n + j) e), .blk g0_0 66 (rgC k u)] w ∧ (j ≤ 4) ∧ (n + j ≤ 18446744073709551615)) ?_ ?_
       · exact ⟨_, 0, none, 0, rfl, (by first | rfl | go_num | exact congrArg (Value.int _) (by first | omega | (simp; done) | (simp; omega))), (by first | rfl | go_num | exact congrArg (Value.int _) (by first | omega | (simp; done) | (simp; omega))), hS, (by omega), (by omega)⟩
       · clear hS; intro mz g w hI
         obtain ⟨j, A', c', rfl, hs15, hs14, hS, hj, hnj⟩ := hI
         refine fr_know (d := 15) hs15 ?_; clear hs15
         refine fr_know (d := 14) hs14 ?_; clear hs14
         refine wp_seq_k ?_; intro K14 hK14
         refine wp_seq_k ?_; intro K15 hK15
         refine wlit ?_
         refine wl_v (x_move (tmI rfl rfl)) ?_
         refine wl_v (x_lss (tmI rfl rfl) (ev_cN 4)) ?_
         refine wl_nil ?_
         refine then_n (hK15 _ _ ?_); clear hK15 K15
         refine cnd (tm rfl) (fun hc2 => ?_) (fun hc2 => ?_)
         · try (exfalso; first | with_reducible exact absurd hc2 Bool.false_ne_true | with_reducible exact absurd hc2.symm Bool.false_ne_true | (simp only [nrm] at hc2; omega) | (simp at hc2; done))
           all_goals
            try simp only [nrm] at hc2
            obtain ⟨bb, er, m', hT⟩ := TK.ex k u (n + j) e v s
            have hTk := fun w => take_g k u (n + j) e v s bb er m' w hkb (by omega) (by omega) (by omega) hT
            have hLj := fun w => lease_left_c (n + j) e w (by omega) (by omega)
            have hRt := fun w => right13_g v s (n + j) w
            have hle2 : leftN (n + j) e ≠ 0 → n + j < e := by unfold leftN; split <;> omega
            unfold TK at hT
            generalize leftN (n + j) e = L1 at *
            refine wp_skip ?_
            refine then_n (hK14 _ _ ?_); clear hK14 K14
            refine wp_seq_k ?_; intro K16 hK16
            refine wp_block ?_
            refine wp_seq_k ?_; intro K17 hK17
            refine wlit ?_
            refine wl_v (x_loadA (cs := [_, _]) Try.underlying98 rfl ts_98 (tmP rfl rfl) (rangeB hS.ok 3 rfl rfl)) ?_
            refine wl_v (x_loadA (cs := [_, _, _, _, _, _, _, _, _, _, _, _, _, _, _, _, _]) Try.underlying69 rfl ts_69 (tmP rfl rfl) (rangeB hS.ok 1 rfl rfl)) ?_
            refine wl_v (x_loadA (cs := [_, _]) Try.underlying88 rfl ts_88 (tmP rfl rfl) (rangeB hS.ok 2 rfl rfl)) ?_
            refine wl_e rfl ?_; intro K hK
            refine ow_call Try.func56 rfl rfl (evs_cons (tmA rfl rfl) <| evs_cons (tmA rfl rfl) <| evs_cons (tmA rfl rfl) <| evs_nil) (hTk _) ?_
            rintro e w ⟨A1, n1, c1, hn1, rfl, hn, hk⟩
            refine ⟨_, rfl, ?_⟩
            replace hS := hS.add hk hn -- +rowt
            clear hn hk
            refine hK _ _ ?_; clear hK K
            refine wl_v (x_move (tmT rfl rfl)) ?_
            refine wl_v (x_ext (tmT rfl rfl) rfl) ?_
            refine wl_v (x_ext (tmT rfl rfl) rfl) ?_
            refine wl_v (x_ext (tmT rfl rfl) rfl) ?_
            refine wl_e rfl ?_; intro K hK
            refine ow_alloc hS tz_98 rfl ?_
            clear hS; intro g12_8 w hg12_8 hS
            refine hK _ _ ?_; clear hK K
            refine wl_v (x_assign (tmS rfl rfl)) ?_
            refine wl_e rfl ?_; intro K hK
            refine ow_storeA hS 0 rfl ts_98 (tmP rfl rfl) (tmA rfl rfl) rfl rfl rfl ?_
            clear hS; intro w hS
            refine hK _ _ ?_; clear hK K
            refine wl_v (x_assign (tmI rfl rfl)) ?_
            refine wl_nil ?_
            refine then_n (hK17 _ _ ?_); clear hK17 K17
            refine wp_seq_k ?_; intro K18 hK18
            refine wp_seq_k ?_; intro K19 hK19
            refine wlit ?_
            refine wl_v (x_loadA (cs := [_, _]) Try.underlying98 rfl ts_98 (tmP rfl rfl) (rangeB hS.ok 5 rfl rfl)) ?_
            refine wl_e rfl ?_; intro K hK
            refine ow_call Try.func55 rfl rfl (evs_cons (tmA rfl rfl) <| evs_nil) (hLj _) ?_
            rintro e w ⟨rfl, hk⟩
            refine ⟨_, rfl, ?_⟩
            replace hS := hS.kept hk
            clear hk
            refine hK _ _ ?_; clear hK K
            refine wl_v (x_eql (tmI rfl rfl) (ev_cN 0)) ?_
            refine wl_v (x_move (tmB rfl rfl)) ?_
            refine gs_wl (tm (t := 107) rfl) (fun hg13_3 => ?_) (fun hg13_3 => ?_)
            · have hg13_3' := hg13_3; (try simp only [nrm] at hg13_3'); try (exfalso; first | with_reducible exact absurd hg13_3 Bool.false_ne_true | with_reducible exact absurd hg13_3.symm Bool.false_ne_true | omega | (simp at hg13_3; done))
              all_goals
               refine wl_s rfl (want_n rfl rfl rfl rfl (by rw [hg13_3]; rfl)) ?_
               refine wl_s rfl (want_n rfl rfl rfl rfl (by rw [hg13_3]; rfl)) ?_
               refine wl_s rfl (want_n rfl rfl rfl rfl (by rw [hg13_3]; rfl)) ?_
               refine wl_s rfl (want_n rfl rfl rfl rfl (by rw [hg13_3]; rfl)) ?_
               refine wl_s rfl (want_n rfl rfl rfl rfl (by rw [hg13_3]; rfl)) ?_
               refine wl_s rfl (want_n rfl rfl rfl rfl (by rw [hg13_3]; rfl)) ?_
               refine wl_s rfl (want_n rfl rfl rfl rfl (by rw [hg13_3]; rfl)) ?_
               refine wl_s rfl (want_n rfl rfl rfl rfl (by rw [hg13_3]; rfl)) ?_
               refine wl_v (x_pickT (tmB rfl rfl) hg13_3 ev_c) ?_
               refine wl_nil ?_
               refine then_n (hK19 _ _ ?_); clear hK19 K19
               refine cnd_t (tmB rfl rfl) rfl ?_
               refine wp_seq_k ?_; intro K20 hK20
               have hbb : bb = [] ∧ n + j = m' ∧ ((L1 = 0 ∧ er = 6) ∨ (L1 ≠ 0 ∧ er = 1)) := by
                 rcases hT with ⟨h1, h2, h3, h4⟩ | ⟨h1, h2, h3, h4, h5⟩ | ⟨h1, h2, h3, h4, h5⟩
                 · exact ⟨h2, h4, .inl ⟨h1, h3⟩⟩
                 · exact ⟨h3, h5, .inr ⟨h1, h4⟩⟩
                 · exfalso
                   first
                     | (simp at hg13_3; omega)
                     | (simp [h2] at hc3; done)
               obtain ⟨rfl, rfl, her⟩ := hbb
               obtain rfl : n1 = 0 := hn1
               refine wlit ?_
               refine wl_v (x_assign (ev_cN 1)) ?_
               refine wl_nil ?_
               refine then_n (hK20 _ _ ?_); clear hK20 K20
               refine wp_seq_k ?_; intro K21 hK21
               refine wp_seq_k ?_; intro K22 hK22
               refine wlit ?_
               refine wl_v (x_loadA (cs := [_, _]) Try.underlying98 rfl ts_98 (tmP rfl rfl) (rangeB hS.ok 5 rfl rfl)) ?_
               refine wl_e rfl ?_; intro K hK
               refine ow_call Try.func55 rfl rfl (evs_cons (tmA rfl rfl) <| evs_nil) (hLj _) ?_
               rintro e w ⟨rfl, hk⟩
               refine ⟨_, rfl, ?_⟩
               replace hS := hS.kept hk
               clear hk
               refine hK _ _ ?_; clear hK K
               refine wl_v (x_eql (tmI rfl rfl) (ev_cN 0)) ?_
               refine wl_nil ?_
               refine then_n (hK22 _ _ ?_); clear hK22 K22
               refine cnd (tm rfl) (fun hc4 => ?_) (fun hc4 => ?_)
               · try (exfalso; first | with_reducible exact absurd hc4 Bool.false_ne_true | with_reducible exact absurd hc4.symm Bool.false_ne_true | (simp only [nrm] at hc4; omega) | (simp at hc4; done))
                 all_goals
                  try simp only [nrm] at hc4
                  refine wlit ?_
                  refine wl_v (x_assign (ev_cN 6)) ?_
                  refine wl_nil ?_
                  refine then_n (hK21 _ _ ?_); clear hK21 K21
                  refine wp_seq_k ?_; intro K23 hK23
                  refine wlit ?_
                  refine wl_v (x_move (tmS rfl rfl)) ?_
                  refine wl_v (x_len Try.underlying22 (tmS rfl rfl)) ?_
                  refine wl_v (x_eql (tmI rfl rfl) (ev_cN 0)) ?_
                  refine wl_v (x_move (tmB rfl rfl)) ?_
                  refine gs_wls (tm (t := 123) rfl) (fun hg17_3 => ?_) (fun hg17_3 => ?_)
                  · exfalso
                    simp at hg17_3
                  have hg17_3' := hg17_3; (try simp only [nrm] at hg17_3'); try (exfalso; first | with_reducible exact absurd hg17_3 Bool.false_ne_true | with_reducible exact absurd hg17_3.symm Bool.false_ne_true | omega | (simp at hg17_3; done))
                  all_goals
                   refine wl_gv (want_y rfl rfl rfl rfl (by rw [hg17_3]; rfl)) (x_loadA (cs := [_, _]) Try.underlying98 rfl ts_98 (tmP rfl rfl) (rangeB hS.ok 0 rfl rfl)) ?_
                   refine wl_gv (want_y rfl rfl rfl rfl (by rw [hg17_3]; rfl)) (x_loadA (cs := [_, _]) Try.underlying98 rfl ts_98 (tmP rfl rfl) (rangeB hS.ok 5 rfl rfl)) ?_
                   refine wl_gv (want_y rfl rfl rfl rfl (by rw [hg17_3]; rfl)) (x_Aeql (by kernel_rfl) (tmA rfl rfl) (tmA rfl rfl) (eqv_A Try.underlying98 (by kernel_rfl) (fe_cons rfl (pt_1 Try.underlying24 rfl rfl) (pt_1 Try.underlying24 rfl rfl) (eqv_i Try.underlying24) <| fe_cons rfl (pt_1 Try.underlying24 rfl rfl) (pt_1 Try.underlying24 rfl rfl) (eqv_i Try.underlying24) <| fe_nil))) ?_
                   refine wl_v (x_pickT (tmB rfl rfl) hg17_3 (tmB rfl rfl)) ?_
                   refine wl_v (x_move (tmB rfl rfl)) ?_
                   refine gs_wls (tm (t := 128) rfl) (fun hg17_8 => ?_) (fun hg17_8 => ?_)
                   · exfalso
                     simp at hg17_8
                   have hg17_8' := hg17_8; (try simp only [nrm] at hg17_8'); try (exfalso; first | with_reducible exact absurd hg17_8 Bool.false_ne_true | with_reducible exact absurd hg17_8.symm Bool.false_ne_true | omega | (simp at hg17_8; done))
                   all_goals
                    refine wl_gv (want_y rfl rfl rfl rfl (by rw [hg17_8]; rfl)) (x_move (tmI rfl rfl)) ?_
                    refine wl_gv (want_y rfl rfl rfl rfl (by rw [hg17_8]; rfl)) (x_move (tmI rfl rfl)) ?_
                    refine wl_gv (want_y rfl rfl rfl rfl (by rw [hg17_8]; rfl)) (x_eql (tmI rfl rfl) (tmI rfl rfl)) ?_
                    refine wl_v (x_pickT (tmB rfl rfl) hg17_8 (tmB rfl rfl)) ?_
                    refine wl_v (x_move (tmB rfl rfl)) ?_
                    refine gs_wls (tm (t := 133) rfl) (fun hg17_13 => ?_) (fun hg17_13 => ?_)
                    · exfalso
                      simp at hg17_13
                      omega
                    have hg17_13' := hg17_13; (try simp only [nrm] at hg17_13'); try (exfalso; first | with_reducible exact absurd hg17_13 Bool.false_ne_true | with_reducible exact absurd hg17_13.symm Bool.false_ne_true | omega | (simp at hg17_13; done))
                    all_goals
                     refine wl_g (want_y rfl rfl rfl rfl (by rw [hg17_13]; rfl)) ?_; intro K hK
                     refine ow_call Try.func49 rfl rfl (evs_nil) (law13_awake_c _) ?_
                     rintro e w ⟨rfl, hk⟩
                     refine ⟨_, rfl, ?_⟩
                     replace hS := hS.kept hk
                     clear hk
                     refine hK _ _ ?_; clear hK K
                     refine wl_v (x_pickT (tmB rfl rfl) hg17_13 (tmB rfl rfl)) ?_
                     refine wl_v (x_assign (tmB rfl rfl)) ?_
                     refine wl_nil ?_
                     refine then_n (hK23 _ _ ?_); clear hK23 K23
                     refine wp_ret ?_
                     refine then_r ?_
                     refine inb_r ?_
                     refine then_r ?_
                     refine then_r ?_
                     refine inb_r ?_
                     refine then_r ?_
                     refine ret1 rfl (.tmp rfl (show _ = Value.bool _ from rfl)) ?_
                     exact ⟨rfl, hS.kp.below⟩
               try (exfalso; first | with_reducible exact absurd hc4 Bool.false_ne_true | with_reducible exact absurd hc4.symm Bool.false_ne_true | (simp only [nrm] at hc4; omega) | (simp at hc4; done))
               all_goals
                try simp only [nrm] at hc4
                refine wp_skip ?_
                refine then_n (hK21 _ _ ?_); clear hK21 K21
                refine wp_seq_k ?_; intro K24 hK24
                refine wlit ?_
                refine wl_v (x_move (tmS rfl rfl)) ?_
                refine wl_v (x_len Try.underlying22 (tmS rfl rfl)) ?_
                refine wl_v (x_eql (tmI rfl rfl) (ev_cN 0)) ?_
                refine wl_v (x_move (tmB rfl rfl)) ?_
                refine gs_wls (tm (t := 123) rfl) (fun hg17_3 => ?_) (fun hg17_3 => ?_)
                · exfalso
                  simp at hg17_3
                have hg17_3' := hg17_3; (try simp only [nrm] at hg17_3'); try (exfalso; first | with_reducible exact absurd hg17_3 Bool.false_ne_true | with_reducible exact absurd hg17_3.symm Bool.false_ne_true | omega | (simp at hg17_3; done))
                all_goals
                 refine wl_gv (want_y rfl rfl rfl rfl (by rw [hg17_3]; rfl)) (x_loadA (cs := [_, _]) Try.underlying98 rfl ts_98 (tmP rfl rfl) (rangeB hS.ok 0 rfl rfl)) ?_
                 refine wl_gv (want_y rfl rfl rfl rfl (by rw [hg17_3]; rfl)) (x_loadA (cs := [_, _]) Try.underlying98 rfl ts_98 (tmP rfl rfl) (rangeB hS.ok 5 rfl rfl)) ?_
                 refine wl_gv (want_y rfl rfl rfl rfl (by rw [hg17_3]; rfl)) (x_Aeql (by kernel_rfl) (tmA rfl rfl) (tmA rfl rfl) (eqv_A Try.underlying98 (by kernel_rfl) (fe_cons rfl (pt_1 Try.underlying24 rfl rfl) (pt_1 Try.underlying24 rfl rfl) (eqv_i Try.underlying24) <| fe_cons rfl (pt_1 Try.underlying24 rfl rfl) (pt_1 Try.underlying24 rfl rfl) (eqv_i Try.underlying24) <| fe_nil))) ?_
                 refine wl_v (x_pickT (tmB rfl rfl) hg17_3 (tmB rfl rfl)) ?_
                 refine wl_v (x_move (tmB rfl rfl)) ?_
                 refine gs_wls (tm (t := 128) rfl) (fun hg17_8 => ?_) (fun hg17_8 => ?_)
                 · exfalso
                   simp at hg17_8
                 have hg17_8' := hg17_8; (try simp only [nrm] at hg17_8'); try (exfalso; first | with_reducible exact absurd hg17_8 Bool.false_ne_true | with_reducible exact absurd hg17_8.symm Bool.false_ne_true | omega | (simp at hg17_8; done))
                 all_goals
                  refine wl_gv (want_y rfl rfl rfl rfl (by rw [hg17_8]; rfl)) (x_move (tmI rfl rfl)) ?_
                  refine wl_gv (want_y rfl rfl rfl rfl (by rw [hg17_8]; rfl)) (x_move (tmI rfl rfl)) ?_
                  refine wl_gv (want_y rfl rfl rfl rfl (by rw [hg17_8]; rfl)) (x_eql (tmI rfl rfl) (tmI rfl rfl)) ?_
                  refine wl_v (x_pickT (tmB rfl rfl) hg17_8 (tmB rfl rfl)) ?_
                  refine wl_v (x_move (tmB rfl rfl)) ?_
                  refine gs_wls (tm (t := 133) rfl) (fun hg17_13 => ?_) (fun hg17_13 => ?_)
                  · exfalso
                    simp at hg17_13
                    omega
                  have hg17_13' := hg17_13; (try simp only [nrm] at hg17_13'); try (exfalso; first | with_reducible exact absurd hg17_13 Bool.false_ne_true | with_reducible exact absurd hg17_13.symm Bool.false_ne_true | omega | (simp at hg17_13; done))
                  all_goals
                   refine wl_g (want_y rfl rfl rfl rfl (by rw [hg17_13]; rfl)) ?_; intro K hK
                   refine ow_call Try.func49 rfl rfl (evs_nil) (law13_awake_c _) ?_
                   rintro e w ⟨rfl, hk⟩
                   refine ⟨_, rfl, ?_⟩
                   replace hS := hS.kept hk
                   clear hk
                   refine hK _ _ ?_; clear hK K
                   refine wl_v (x_pickT (tmB rfl rfl) hg17_13 (tmB rfl rfl)) ?_
                   refine wl_v (x_assign (tmB rfl rfl)) ?_
                   refine wl_nil ?_
                   refine then_n (hK24 _ _ ?_); clear hK24 K24
                   refine wp_ret ?_
                   refine then_r ?_
                   refine inb_r ?_
                   refine then_r ?_
                   refine then_r ?_
                   refine inb_r ?_
                   refine then_r ?_
                   refine ret1 rfl (.tmp rfl (show _ = Value.bool _ from rfl)) ?_
                   exact ⟨rfl, hS.kp.below⟩
            have hg13_3' := hg13_3; (try simp only [nrm] at hg13_3'); try (exfalso; first | with_reducible exact absurd hg13_3 Bool.false_ne_true | with_reducible exact absurd hg13_3.symm Bool.false_ne_true | omega | (simp at hg13_3; done))
            all_goals
             refine wl_gv (want_y rfl rfl rfl rfl (by rw [hg13_3]; rfl)) (x_fa 0 Try.underlying88 rfl rfl ts_3 (tmP rfl rfl)) ?_
             first
              | refine wl_gv (want_y rfl rfl rfl rfl (by rw [hg13_3]; rfl)) (x_load Try.underlying3 rfl (tmP rfl rfl) (cellB hS.ok 4 rfl rfl)) ?_
              | refine wl_gv (want_y rfl rfl rfl rfl (by rw [hg13_3]; rfl)) (x_load Try.underlying3 rfl (tmP rfl rfl) (cellB hS.ok 4 rfl (getm (by omega)))) ?_
             refine wl_gv (want_y rfl rfl rfl rfl (by rw [hg13_3]; rfl)) (x_fa 1 Try.underlying88 rfl rfl ts_3 (tmP rfl rfl)) ?_
             first
              | refine wl_gv (want_y rfl rfl rfl rfl (by rw [hg13_3]; rfl)) (x_load Try.underlying3 rfl (tmP rfl rfl) (cellB hS.ok 4 rfl rfl)) ?_
              | refine wl_gv (want_y rfl rfl rfl rfl (by rw [hg13_3]; rfl)) (x_load Try.underlying3 rfl (tmP rfl rfl) (cellB hS.ok 4 rfl (getm (by omega)))) ?_
             refine wl_gv (want_y rfl rfl rfl rfl (by rw [hg13_3]; rfl)) (x_fa 0 Try.underlying98 rfl rfl ts_24 (tmP rfl rfl)) ?_
             first
              | refine wl_gv (want_y rfl rfl rfl rfl (by rw [hg13_3]; rfl)) (x_load Try.underlying24 rfl (tmP rfl rfl) (cellB hS.ok 5 rfl rfl)) ?_
              | refine wl_gv (want_y rfl rfl rfl rfl (by rw [hg13_3]; rfl)) (x_load Try.underlying24 rfl (tmP rfl rfl) (cellB hS.ok 5 rfl (getm (by omega)))) ?_
             refine wl_g (want_y rfl rfl rfl rfl (by rw [hg13_3]; rfl)) ?_; intro K hK
             refine ow_call Try.func48 rfl rfl (evs_cons (tmI rfl rfl) <| evs_cons (tmI rfl rfl) <| evs_cons (tmI rfl rfl) <| evs_nil) (hRt _) ?_
             rintro e w ⟨rfl, hk⟩
             refine ⟨_, rfl, ?_⟩
             replace hS := hS.kept hk
             clear hk
             refine hK _ _ ?_; clear hK K
             refine wl_gv (want_y rfl rfl rfl rfl (by rw [hg13_3]; rfl)) (x_not (tmB rfl rfl)) ?_
             refine wl_v (x_pickF (tmB rfl rfl) hg13_3 (tmB rfl rfl)) ?_
             refine wl_nil ?_
             refine then_n (hK19 _ _ ?_); clear hK19 K19
             refine cnd (tm rfl) (fun hc3 => ?_) (fun hc3 => ?_)
             · try (exfalso; first | with_reducible exact absurd hc3 Bool.false_ne_true | with_reducible exact absurd hc3.symm Bool.false_ne_true | (simp only [nrm] at hc3; omega) | (simp at hc3; done))
               all_goals
                try simp only [nrm] at hc3
                refine wp_seq_k ?_; intro K25 hK25
                have hbb : bb = [] ∧ n + j = m' ∧ ((L1 = 0 ∧ er = 6) ∨ (L1 ≠ 0 ∧ er = 1)) := by
                  rcases hT with ⟨h1, h2, h3, h4⟩ | ⟨h1, h2, h3, h4, h5⟩ | ⟨h1, h2, h3, h4, h5⟩
                  · exact ⟨h2, h4, .inl ⟨h1, h3⟩⟩
                  · exact ⟨h3, h5, .inr ⟨h1, h4⟩⟩
                  · exfalso
                    first
                      | (simp at hg13_3; omega)
                      | (simp [h2] at hc3; done)
                obtain ⟨rfl, rfl, her⟩ := hbb
                obtain rfl : n1 = 0 := hn1
                refine wlit ?_
                refine wl_v (x_assign (ev_cN 1)) ?_
                refine wl_nil ?_
                refine then_n (hK25 _ _ ?_); clear hK25 K25
                refine wp_seq_k ?_; intro K26 hK26
                refine wp_seq_k ?_; intro K27 hK27
                refine wlit ?_
                refine wl_v (x_loadA (cs := [_, _]) Try.underlying98 rfl ts_98 (tmP rfl rfl) (rangeB hS.ok 5 rfl rfl)) ?_
                refine wl_e rfl ?_; intro K hK
                refine ow_call Try.func55 rfl rfl (evs_cons (tmA rfl rfl) <| evs_nil) (hLj _) ?_
                rintro e w ⟨rfl, hk⟩
                refine ⟨_, rfl, ?_⟩
                replace hS := hS.kept hk
                clear hk
                refine hK _ _ ?_; clear hK K
                refine wl_v (x_eql (tmI rfl rfl) (ev_cN 0)) ?_
                refine wl_nil ?_
                refine then_n (hK27 _ _ ?_); clear hK27 K27
                refine cnd (tm rfl) (fun hc4 => ?_) (fun hc4 => ?_)
                · try (exfalso; first | with_reducible exact absurd hc4 Bool.false_ne_true | with_reducible exact absurd hc4.symm Bool.false_ne_true | (simp only [nrm] at hc4; omega) | (simp at hc4; done))
                  all_goals
                   try simp only [nrm] at hc4
                   refine wlit ?_
                   refine wl_v (x_assign (ev_cN 6)) ?_
                   refine wl_nil ?_
                   refine then_n (hK26 _ _ ?_); clear hK26 K26
                   refine wp_seq_k ?_; intro K28 hK28
                   refine wlit ?_
                   refine wl_v (x_move (tmS rfl rfl)) ?_
                   refine wl_v (x_len Try.underlying22 (tmS rfl rfl)) ?_
                   refine wl_v (x_eql (tmI rfl rfl) (ev_cN 0)) ?_
                   refine wl_v (x_move (tmB rfl rfl)) ?_
                   refine gs_wls (tm (t := 123) rfl) (fun hg17_3 => ?_) (fun hg17_3 => ?_)
                   · exfalso
                     simp at hg17_3
                   have hg17_3' := hg17_3; (try simp only [nrm] at hg17_3'); try (exfalso; first | with_reducible exact absurd hg17_3 Bool.false_ne_true | with_reducible exact absurd hg17_3.symm Bool.false_ne_true | omega | (simp at hg17_3; done))
                   all_goals
                    refine wl_gv (want_y rfl rfl rfl rfl (by rw [hg17_3]; rfl)) (x_loadA (cs := [_, _]) Try.underlying98 rfl ts_98 (tmP rfl rfl) (rangeB hS.ok 0 rfl rfl)) ?_
                    refine wl_gv (want_y rfl rfl rfl rfl (by rw [hg17_3]; rfl)) (x_loadA (cs := [_, _]) Try.underlying98 rfl ts_98 (tmP rfl rfl) (rangeB hS.ok 5 rfl rfl)) ?_
                    refine wl_gv (want_y rfl rfl rfl rfl (by rw [hg17_3]; rfl)) (x_Aeql (by kernel_rfl) (tmA rfl rfl) (tmA rfl rfl) (eqv_A Try.underlying98 (by kernel_rfl) (fe_cons rfl (pt_1 Try.underlying24 rfl rfl) (pt_1 Try.underlying24 rfl rfl) (eqv_i Try.underlying24) <| fe_cons rfl (pt_1 Try.underlying24 rfl rfl) (pt_1 Try.underlying24 rfl rfl) (eqv_i Try.underlying24) <| fe_nil))) ?_
                    refine wl_v (x_pickT (tmB rfl rfl) hg17_3 (tmB rfl rfl)) ?_
                    refine wl_v (x_move (tmB rfl rfl)) ?_
                    refine gs_wls (tm (t := 128) rfl) (fun hg17_8 => ?_) (fun hg17_8 => ?_)
                    · exfalso
                      simp at hg17_8
                    have hg17_8' := hg17_8; (try simp only [nrm] at hg17_8'); try (exfalso; first | with_reducible exact absurd hg17_8 Bool.false_ne_true | with_reducible exact absurd hg17_8.symm Bool.false_ne_true | omega | (simp at hg17_8; done))
                    all_goals
                     refine wl_gv (want_y rfl rfl rfl rfl (by rw [hg17_8]; rfl)) (x_move (tmI rfl rfl)) ?_
                     refine wl_gv (want_y rfl rfl rfl rfl (by rw [hg17_8]; rfl)) (x_move (tmI rfl rfl)) ?_
                     refine wl_gv (want_y rfl rfl rfl rfl (by rw [hg17_8]; rfl)) (x_eql (tmI rfl rfl) (tmI rfl rfl)) ?_
                     refine wl_v (x_pickT (tmB rfl rfl) hg17_8 (tmB rfl rfl)) ?_
                     refine wl_v (x_move (tmB rfl rfl)) ?_
                     refine gs_wls (tm (t := 133) rfl) (fun hg17_13 => ?_) (fun hg17_13 => ?_)
                     · exfalso
                       simp at hg17_13
                       omega
                     have hg17_13' := hg17_13; (try simp only [nrm] at hg17_13'); try (exfalso; first | with_reducible exact absurd hg17_13 Bool.false_ne_true | with_reducible exact absurd hg17_13.symm Bool.false_ne_true | omega | (simp at hg17_13; done))
                     all_goals
                      refine wl_g (want_y rfl rfl rfl rfl (by rw [hg17_13]; rfl)) ?_; intro K hK
                      refine ow_call Try.func49 rfl rfl (evs_nil) (law13_awake_c _) ?_
                      rintro e w ⟨rfl, hk⟩
                      refine ⟨_, rfl, ?_⟩
                      replace hS := hS.kept hk
                      clear hk
                      refine hK _ _ ?_; clear hK K
                      refine wl_v (x_pickT (tmB rfl rfl) hg17_13 (tmB rfl rfl)) ?_
                      refine wl_v (x_assign (tmB rfl rfl)) ?_
                      refine wl_nil ?_
                      refine then_n (hK28 _ _ ?_); clear hK28 K28
                      refine wp_ret ?_
                      refine then_r ?_
                      refine inb_r ?_
                      refine then_r ?_
                      refine then_r ?_
                      refine inb_r ?_
                      refine then_r ?_
                      refine ret1 rfl (.tmp rfl (show _ = Value.bool _ from rfl)) ?_
                      exact ⟨rfl, hS.kp.below⟩
                try (exfalso; first | with_reducible exact absurd hc4 Bool.false_ne_true | with_reducible exact absurd hc4.symm Bool.false_ne_true | (simp only [nrm] at hc4; omega) | (simp at hc4; done))
                all_goals
                 try simp only [nrm] at hc4
                 refine wp_skip ?_
                 refine then_n (hK26 _ _ ?_); clear hK26 K26
                 refine wp_seq_k ?_; intro K29 hK29
                 refine wlit ?_
                 refine wl_v (x_move (tmS rfl rfl)) ?_
                 refine wl_v (x_len Try.underlying22 (tmS rfl rfl)) ?_
                 refine wl_v (x_eql (tmI rfl rfl) (ev_cN 0)) ?_
                 refine wl_v (x_move (tmB rfl rfl)) ?_
                 refine gs_wls (tm (t := 123) rfl) (fun hg17_3 => ?_) (fun hg17_3 => ?_)
                 · exfalso
                   simp at hg17_3
                 have hg17_3' := hg17_3; (try simp only [nrm] at hg17_3'); try (exfalso; first | with_reducible exact absurd hg17_3 Bool.false_ne_true | with_reducible exact absurd hg17_3.symm Bool.false_ne_true | omega | (simp at hg17_3; done))
                 all_goals
                  refine wl_gv (want_y rfl rfl rfl rfl (by rw [hg17_3]; rfl)) (x_loadA (cs := [_, _]) Try.underlying98 rfl ts_98 (tmP rfl rfl) (rangeB hS.ok 0 rfl rfl)) ?_
                  refine wl_gv (want_y rfl rfl rfl rfl (by rw [hg17_3]; rfl)) (x_loadA (cs := [_, _]) Try.underlying98 rfl ts_98 (tmP rfl rfl) (rangeB hS.ok 5 rfl rfl)) ?_
                  refine wl_gv (want_y rfl rfl rfl rfl (by rw [hg17_3]; rfl)) (x_Aeql (by kernel_rfl) (tmA rfl rfl) (tmA rfl rfl) (eqv_A Try.underlying98 (by kernel_rfl) (fe_cons rfl (pt_1 Try.underlying24 rfl rfl) (pt_1 Try.underlying24 rfl rfl) (eqv_i Try.underlying24) <| fe_cons rfl (pt_1 Try.underlying24 rfl rfl) (pt_1 Try.underlying24 rfl rfl) (eqv_i Try.underlying24) <| fe_nil))) ?_
                  refine wl_v (x_pickT (tmB rfl rfl) hg17_3 (tmB rfl rfl)) ?_
                  refine wl_v (x_move (tmB rfl rfl)) ?_
                  refine gs_wls (tm (t := 128) rfl) (fun hg17_8 => ?_) (fun hg17_8 => ?_)
                  · exfalso
                    simp at hg17_8
                  have hg17_8' := hg17_8; (try simp only [nrm] at hg17_8'); try (exfalso; first | with_reducible exact absurd hg17_8 Bool.false_ne_true | with_reducible exact absurd hg17_8.symm Bool.false_ne_true | omega | (simp at hg17_8; done))
                  all_goals
                   refine wl_gv (want_y rfl rfl rfl rfl (by rw [hg17_8]; rfl)) (x_move (tmI rfl rfl)) ?_
                   refine wl_gv (want_y rfl rfl rfl rfl (by rw [hg17_8]; rfl)) (x_move (tmI rfl rfl)) ?_
                   refine wl_gv (want_y rfl rfl rfl rfl (by rw [hg17_8]; rfl)) (x_eql (tmI rfl rfl) (tmI rfl rfl)) ?_
                   refine wl_v (x_pickT (tmB rfl rfl) hg17_8 (tmB rfl rfl)) ?_
                   refine wl_v (x_move (tmB rfl rfl)) ?_
                   refine gs_wls (tm (t := 133) rfl) (fun hg17_13 => ?_) (fun hg17_13 => ?_)
                   · exfalso
                     simp at hg17_13
                     omega
                   have hg17_13' := hg17_13; (try simp only [nrm] at hg17_13'); try (exfalso; first | with_reducible exact absurd hg17_13 Bool.false_ne_true | with_reducible exact absurd hg17_13.symm Bool.false_ne_true | omega | (simp at hg17_13; done))
                   all_goals
                    refine wl_g (want_y rfl rfl rfl rfl (by rw [hg17_13]; rfl)) ?_; intro K hK
                    refine ow_call Try.func49 rfl rfl (evs_nil) (law13_awake_c _) ?_
                    rintro e w ⟨rfl, hk⟩
                    refine ⟨_, rfl, ?_⟩
                    replace hS := hS.kept hk
                    clear hk
                    refine hK _ _ ?_; clear hK K
                    refine wl_v (x_pickT (tmB rfl rfl) hg17_13 (tmB rfl rfl)) ?_
                    refine wl_v (x_assign (tmB rfl rfl)) ?_
                    refine wl_nil ?_
                    refine then_n (hK29 _ _ ?_); clear hK29 K29
                    refine wp_ret ?_
                    refine then_r ?_
                    refine inb_r ?_
                    refine then_r ?_
                    refine then_r ?_
                    refine inb_r ?_
                    refine then_r ?_
                    refine ret1 rfl (.tmp rfl (show _ = Value.bool _ from rfl)) ?_
                    exact ⟨rfl, hS.kp.below⟩
             try (exfalso; first | with_reducible exact absurd hc3 Bool.false_ne_true | with_reducible exact absurd hc3.symm Bool.false_ne_true | (simp only [nrm] at hc3; omega) | (simp at hc3; done))
             all_goals
              try simp only [nrm] at hc3
              have hbb : rightM v s (n + j) ∧ bb = idB (derF k u) (u % 2) (plN v s) (n + j) ∧ er = 0 ∧ m' = n + j + 1 ∧ L1 ≠ 0 := by
                rcases hT with ⟨h1, h2, h3, h4⟩ | ⟨h1, h2, h3, h4, h5⟩ | ⟨h1, h2, h3, h4, h5⟩
                · exfalso
                  simp at hg13_3
                  omega
                · exfalso
                  simp [h2] at hc3
                · exact ⟨h2, h3, h4, h5, h1⟩
              obtain ⟨hrM, rfl, rfl, rfl, hL1⟩ := hbb
              have hne := hle2 hL1
              obtain rfl : n1 = 12 := by rw [hn1, idB_len]
              have hib := idB_bytes (derF k u) (u % 2) (plN v s) (n + j)
              have hil := idB_len (derF k u) (u % 2) (plN v s) (n + j)
              have hRm := fun w => rcid_make_g k u v s (n + j) w hkb (by omega) hrM
              refine wp_skip ?_
              refine then_n (hK18 _ _ ?_); clear hK18 K18
              refine wp_seq_k ?_; intro K30 hK30
              refine wp_seq_k ?_; intro K31 hK31
              refine rg_startk 0 hS mixed_ ?_
              clear hS; intro w hS
              refine rg_take 0 rfl rfl (by kernel_rfl) (by kernel_rfl) (by kernel_rfl) (want_0) (fun w hok => x_move (tmI rfl rfl)) ?_
              refine rg_take 1 rfl rfl (by kernel_rfl) (by kernel_rfl) (by kernel_rfl) (want_0) (fun w hok => x_neq (tmI rfl rfl) (ev_cN 0)) ?_
              refine rg_take 2 rfl rfl (by kernel_rfl) (by kernel_rfl) (by kernel_rfl) (want_0) (fun w hok => x_move (tmB rfl rfl)) ?_
              refine gs_rg (tm (t := 138) rfl) (fun hg18_2 => ?_) (fun hg18_2 => ?_)
              · exfalso
                simp at hg18_2
              have hg18_2' := hg18_2; (try simp only [nrm] at hg18_2'); try (exfalso; first | with_reducible exact absurd hg18_2 Bool.false_ne_true | with_reducible exact absurd hg18_2.symm Bool.false_ne_true | omega | (simp at hg18_2; done))
              all_goals
               refine rg_take 3 rfl rfl (by kernel_rfl) (by kernel_rfl) (by kernel_rfl) (want_y rfl rfl rfl rfl (by rw [hg18_2]; rfl)) (fun w hok => x_move (tmS rfl rfl)) ?_
               first
                | refine rg_take 4 rfl rfl (by kernel_rfl) (by kernel_rfl) (by kernel_rfl) (want_y rfl rfl rfl rfl (by rw [hg18_2]; rfl)) (fun w hok => x_bstr Try.underlying22 Try.underlying5 Try.underlying9 (tmS rfl rfl) (viewR hok 1 rfl) (by first | assumption | exact Bytes.nil | (repeat' (first | assumption | exact Bytes.nil | exact be_bytes _ _ | apply Bytes.append | apply Bytes.take | apply Bytes.drop | apply Bytes.replicate))) (by first | rfl | assumption | (simp; done) | (simp; omega) | omega)) ?_
                | refine rg_take 4 rfl rfl (by kernel_rfl) (by kernel_rfl) (by kernel_rfl) (want_y rfl rfl rfl rfl (by rw [hg18_2]; rfl)) (fun w hok => x_bstr Try.underlying22 Try.underlying5 Try.underlying9 (tmS rfl rfl) (viewR hok 2 rfl) (by first | assumption | exact Bytes.nil | (repeat' (first | assumption | exact Bytes.nil | exact be_bytes _ _ | apply Bytes.append | apply Bytes.take | apply Bytes.drop | apply Bytes.replicate))) (by first | rfl | assumption | (simp; done) | (simp; omega) | omega)) ?_
                | refine rg_take 4 rfl rfl (by kernel_rfl) (by kernel_rfl) (by kernel_rfl) (want_y rfl rfl rfl rfl (by rw [hg18_2]; rfl)) (fun w hok => x_bstr (l := []) Try.underlying22 Try.underlying5 Try.underlying9 (tmS rfl rfl) View.nil_ (by first | assumption | exact Bytes.nil | (repeat' (first | assumption | exact Bytes.nil | exact be_bytes _ _ | apply Bytes.append | apply Bytes.take | apply Bytes.drop | apply Bytes.replicate))) (by first | rfl | assumption | (simp; done) | (simp; omega) | omega)) ?_
               refine rg_take 5 rfl rfl (by kernel_rfl) (by kernel_rfl) (by kernel_rfl) (want_y rfl rfl rfl rfl (by rw [hg18_2]; rfl)) (fun w hok => x_loadA (cs := [_, _, _, _, _, _, _, _, _, _, _, _, _, _, _, _, _]) Try.underlying66 rfl ts_66 (tmP rfl rfl) (rangeB hok 6 rfl rfl)) ?_
               refine rg_take 6 rfl rfl (by kernel_rfl) (by kernel_rfl) (by kernel_rfl) (want_y rfl rfl rfl rfl (by rw [hg18_2]; rfl)) (fun w hok => x_fa 0 Try.underlying88 rfl rfl ts_3 (tmP rfl rfl)) ?_
               first
                | refine rg_take 7 rfl rfl (by kernel_rfl) (by kernel_rfl) (by kernel_rfl) (want_y rfl rfl rfl rfl (by rw [hg18_2]; rfl)) (fun w hok => x_load Try.underlying3 rfl (tmP rfl rfl) (cellB hok 4 rfl rfl)) ?_
                | refine rg_take 7 rfl rfl (by kernel_rfl) (by kernel_rfl) (by kernel_rfl) (want_y rfl rfl rfl rfl (by rw [hg18_2]; rfl)) (fun w hok => x_load Try.underlying3 rfl (tmP rfl rfl) (cellB hok 4 rfl (getm (by omega)))) ?_
               refine rg_take 8 rfl rfl (by kernel_rfl) (by kernel_rfl) (by kernel_rfl) (want_y rfl rfl rfl rfl (by rw [hg18_2]; rfl)) (fun w hok => x_fa 1 Try.underlying88 rfl rfl ts_3 (tmP rfl rfl)) ?_
               first
                | refine rg_take 9 rfl rfl (by kernel_rfl) (by kernel_rfl) (by kernel_rfl) (want_y rfl rfl rfl rfl (by rw [hg18_2]; rfl)) (fun w hok => x_load Try.underlying3 rfl (tmP rfl rfl) (cellB hok 4 rfl rfl)) ?_
                | refine rg_take 9 rfl rfl (by kernel_rfl) (by kernel_rfl) (by kernel_rfl) (want_y rfl rfl rfl rfl (by rw [hg18_2]; rfl)) (fun w hok => x_load Try.underlying3 rfl (tmP rfl rfl) (cellB hok 4 rfl (getm (by omega)))) ?_
               refine rg_take 10 rfl rfl (by kernel_rfl) (by kernel_rfl) (by kernel_rfl) (want_y rfl rfl rfl rfl (by rw [hg18_2]; rfl)) (fun w hok => x_fa 0 Try.underlying98 rfl rfl ts_24 (tmP rfl rfl)) ?_
               first
                | refine rg_take 11 rfl rfl (by kernel_rfl) (by kernel_rfl) (by kernel_rfl) (want_y rfl rfl rfl rfl (by rw [hg18_2]; rfl)) (fun w hok => x_load Try.underlying24 rfl (tmP rfl rfl) (cellB hok 5 rfl rfl)) ?_
                | refine rg_take 11 rfl rfl (by kernel_rfl) (by kernel_rfl) (by kernel_rfl) (want_y rfl rfl rfl rfl (by rw [hg18_2]; rfl)) (fun w hok => x_load Try.underlying24 rfl (tmP rfl rfl) (cellB hok 5 rfl (getm (by omega)))) ?_
               refine rg_step 12 rfl (by kernel_rfl) (want_y rfl rfl rfl rfl (by rw [hg18_2]; rfl)) (oks_drop hS 0 rfl) ?_; intro K hK
               refine ow_call Try.func50 rfl rfl (evs_cons (tmA rfl rfl) <| evs_cons (tmI rfl rfl) <| evs_cons (tmI rfl rfl) <| evs_cons (tmI rfl rfl) <| evs_nil) (hRm _) ?_
               rintro e w ⟨A2, c2, rfl, hn, hk⟩
               refine ⟨_, rfl, ?_⟩
               replace hS := hS.add hk hn -- +rowm
               clear hn hk
               refine hK _ _ ?_; clear hK K
               refine rg_step 13 rfl (by kernel_rfl) (want_y rfl rfl rfl rfl (by rw [hg18_2]; rfl)) (oks_drop hS 1 rfl) ?_; intro K hK
               first
                | refine ow_v (x_bstr Try.underlying22 Try.underlying5 Try.underlying9 (tmS rfl rfl) (viewR hS.ok 0 rfl) (by first | assumption | exact Bytes.nil | (repeat' (first | assumption | exact Bytes.nil | exact be_bytes _ _ | apply Bytes.append | apply Bytes.take | apply Bytes.drop | apply Bytes.replicate))) (by first | rfl | assumption | (simp; done) | (simp; omega) | omega)) ?_
                | refine ow_v (x_bstr Try.underlying22 Try.underlying5 Try.underlying9 (tmS rfl rfl) (viewR hS.ok 2 rfl) (by first | assumption | exact Bytes.nil | (repeat' (first | assumption | exact Bytes.nil | exact be_bytes _ _ | apply Bytes.append | apply Bytes.take | apply Bytes.drop | apply Bytes.replicate))) (by first | rfl | assumption | (simp; done) | (simp; omega) | omega)) ?_
                | refine ow_v (x_bstr Try.underlying22 Try.underlying5 Try.underlying9 (tmS rfl rfl) (viewR hS.ok 3 rfl) (by first | assumption | exact Bytes.nil | (repeat' (first | assumption | exact Bytes.nil | exact be_bytes _ _ | apply Bytes.append | apply Bytes.take | apply Bytes.drop | apply Bytes.replicate))) (by first | rfl | assumption | (simp; done) | (simp; omega) | omega)) ?_
                | refine ow_v (x_bstr (l := []) Try.underlying22 Try.underlying5 Try.underlying9 (tmS rfl rfl) View.nil_ (by first | assumption | exact Bytes.nil | (repeat' (first | assumption | exact Bytes.nil | exact be_bytes _ _ | apply Bytes.append | apply Bytes.take | apply Bytes.drop | apply Bytes.replicate))) (by first | rfl | assumption | (simp; done) | (simp; omega) | omega)) ?_
               refine hK _ _ ?_; clear hK K
               refine rg_take 14 rfl rfl (by kernel_rfl) (by kernel_rfl) (by kernel_rfl) (want_y rfl rfl rfl rfl (by rw [hg18_2]; rfl)) (fun w hok => x_Gneq (tmG rfl rfl) (tmG rfl rfl) (by first | assumption | exact Bytes.nil | (repeat' (first | assumption | exact Bytes.nil | exact be_bytes _ _ | apply Bytes.append | apply Bytes.take | apply Bytes.drop | apply Bytes.replicate))) (by first | assumption | exact Bytes.nil | (repeat' (first | assumption | exact Bytes.nil | exact be_bytes _ _ | apply Bytes.append | apply Bytes.take | apply Bytes.drop | apply Bytes.replicate)))) ?_
               refine rg_take 15 rfl rfl (by kernel_rfl) (by kernel_rfl) (by kernel_rfl) (want_0) (fun w hok => x_pickF (tmB rfl rfl) hg18_2 (tmB rfl rfl)) ?_
               refine rg_take 16 rfl rfl (by kernel_rfl) (by kernel_rfl) (by kernel_rfl) (want_0) (fun w hok => x_move (tmB rfl rfl)) ?_
               refine gs_rg (tm (t := 152) rfl) (fun hg18_16 => ?_) (fun hg18_16 => ?_)
               · exfalso
                 simp at hg18_16
               have hg18_16' := hg18_16; (try simp only [nrm] at hg18_16'); try (exfalso; first | with_reducible exact absurd hg18_16 Bool.false_ne_true | with_reducible exact absurd hg18_16.symm Bool.false_ne_true | omega | (simp at hg18_16; done))
               all_goals
                refine rg_take 17 rfl rfl (by kernel_rfl) (by kernel_rfl) (by kernel_rfl) (want_y rfl rfl rfl rfl (by rw [hg18_16]; rfl)) (fun w hok => x_loadA (cs := [_, _]) Try.underlying98 rfl ts_98 (tmP rfl rfl) (rangeB hok 0 rfl rfl)) ?_
                refine rg_take 18 rfl rfl (by kernel_rfl) (by kernel_rfl) (by kernel_rfl) (want_y rfl rfl rfl rfl (by rw [hg18_16]; rfl)) (fun w hok => x_fa 0 Try.underlying98 rfl rfl ts_24 (tmP rfl rfl)) ?_
                first
                 | refine rg_take 19 rfl rfl (by kernel_rfl) (by kernel_rfl) (by kernel_rfl) (want_y rfl rfl rfl rfl (by rw [hg18_16]; rfl)) (fun w hok => x_load Try.underlying24 rfl (tmP rfl rfl) (cellB hok 5 rfl rfl)) ?_
                 | refine rg_take 19 rfl rfl (by kernel_rfl) (by kernel_rfl) (by kernel_rfl) (want_y rfl rfl rfl rfl (by rw [hg18_16]; rfl)) (fun w hok => x_load Try.underlying24 rfl (tmP rfl rfl) (cellB hok 5 rfl (getm (by omega)))) ?_
                first
                 | refine rg_take 20 rfl rfl (by kernel_rfl) (by kernel_rfl) (by kernel_rfl) (want_y rfl rfl rfl rfl (by rw [hg18_16]; rfl)) (fun w hok => x_addN (tmI rfl rfl) (ev_cN 1) (fit_u64 (by omega))) ?_
                 | refine rg_take 20 rfl rfl (by kernel_rfl) (by kernel_rfl) (by kernel_rfl) (want_y rfl rfl rfl rfl (by rw [hg18_16]; rfl)) (fun w hok => x_addI (tmI rfl rfl) (ev_cN 1) (IntWalk.u64_in _ (by omega))) ?_
                 | refine rg_take 20 rfl rfl (by kernel_rfl) (by kernel_rfl) (by kernel_rfl) (want_y rfl rfl rfl rfl (by rw [hg18_16]; rfl)) (fun w hok => x_addU (tmI rfl rfl) (ev_cN 1) rfl) ?_
                 | refine rg_take 20 rfl rfl (by kernel_rfl) (by kernel_rfl) (by kernel_rfl) (want_y rfl rfl rfl rfl (by rw [hg18_16]; rfl)) (fun w hok => x_add (tmI rfl rfl) (ev_cN 1)) ?_
                refine rg_take 21 rfl rfl (by kernel_rfl) (by kernel_rfl) (by kernel_rfl) (want_y rfl rfl rfl rfl (by rw [hg18_16]; rfl)) (fun w hok => x_fa 1 Try.underlying98 rfl rfl ts_24 (tmP rfl rfl)) ?_
                first
                 | refine rg_take 22 rfl rfl (by kernel_rfl) (by kernel_rfl) (by kernel_rfl) (want_y rfl rfl rfl rfl (by rw [hg18_16]; rfl)) (fun w hok => x_load Try.underlying24 rfl (tmP rfl rfl) (cellB hok 5 rfl rfl)) ?_
                 | refine rg_take 22 rfl rfl (by kernel_rfl) (by kernel_rfl) (by kernel_rfl) (want_y rfl rfl rfl rfl (by rw [hg18_16]; rfl)) (fun w hok => x_load Try.underlying24 rfl (tmP rfl rfl) (cellB hok 5 rfl (getm (by omega)))) ?_
                refine rg_take 23 rfl rfl (by kernel_rfl) (by kernel_rfl) (by kernel_rfl) (want_y rfl rfl rfl rfl (by rw [hg18_16]; rfl)) (fun w hok => x_build (bc_take (tmI rfl rfl) <| bc_take (tmI rfl rfl) <| bc_nil) (by kernel_rfl)) ?_
                refine rg_take 24 rfl rfl (by kernel_rfl) (by kernel_rfl) (by kernel_rfl) (want_y rfl rfl rfl rfl (by rw [hg18_16]; rfl)) (fun w hok => x_Aneq (by kernel_rfl) (tmA rfl rfl) (tmA rfl rfl) (eqv_A Try.underlying98 (by kernel_rfl) (fe_cons rfl (pt_1 Try.underlying24 rfl rfl) (pt_1 Try.underlying24 rfl rfl) (eqv_i Try.underlying24) <| fe_cons rfl (pt_1 Try.underlying24 rfl rfl) (pt_1 Try.underlying24 rfl rfl) (eqv_i Try.underlying24) <| fe_nil))) ?_
                refine rg_take 25 rfl rfl (by kernel_rfl) (by kernel_rfl) (by kernel_rfl) (want_0) (fun w hok => x_pickF (tmB rfl rfl) hg18_16 (tmB rfl rfl)) ?_
                refine rg_done (oks_drop hS 1 rfl) (by kernel_rfl) ?_
                refine then_n (hK31 _ _ ?_); clear hK31 K31
                refine cnd (tm rfl) (fun hc5 => ?_) (fun hc5 => ?_)
                · exfalso
                  simp at hc5
                try (exfalso; first | with_reducible exact absurd hc5 Bool.false_ne_true | with_reducible exact absurd hc5.symm Bool.false_ne_true | (simp only [nrm] at hc5; omega) | (simp at hc5; done))
                all_goals
                 try simp only [nrm] at hc5
                 refine wp_skip ?_
                 refine then_n (hK30 _ _ ?_); clear hK30 K30
                 refine wp_seq_k ?_; intro K32 hK32
                 refine wp_seq_k ?_; intro K33 hK33
                 refine wlit ?_
                 refine wl_v (x_assign (ev_cN 0)) ?_
                 refine wl_nil ?_
                 refine then_n (hK33 _ _ ?_); clear hK33 K33
                 refine wp_block ?_
                 refine lp [8, 20, 162, 163, 164, 165, 166, 167, 168, 169, 170, 171, 172, 173, 174] (fun mz g w => ∃ (i : Nat), mz = j - i ∧ g 20 = .int .i64 (i : Int) ∧ St [] w0 [.row (.slice A1 12 c1) 5 1 12 ((idB (derF k u) (u % 2) (plN v s) (n + j)).map u8v), .blk g12_8 98 (lsV (n + j + 1) e), .row (.slice A' j c') 9 1 j (idsL (derF k u) (u % 2) (plN v s) n j), .blk g1_5 69 (rgC k u), .blk g0_2 88 (plV v s), .blk g0_1 98 (lsV (n + j) e), .blk g0_0 66 (rgC k u)] w ∧ (i ≤ j)) ?_ ?_
                 · exact ⟨_, 0, rfl, (by first | rfl | go_num | exact congrArg (Value.int _) (by first | omega | (simp; done) | (simp; omega))), (hS.pick [2, 1, 3, 4, 5, 6, 7] rfl rfl), (by omega)⟩
                 · clear hS; intro mz g w hI
                   obtain ⟨i, rfl, hs20, hS, hi⟩ := hI
                   refine fr_know (d := 20) hs20 ?_; clear hs20
                   refine wp_seq_k ?_; intro K34 hK34
                   refine wp_seq_k ?_; intro K35 hK35
                   refine wlit ?_
                   refine wl_v (x_move (tmI rfl rfl)) ?_
                   refine wl_v (x_move (tmS rfl rfl)) ?_
                   refine wl_v (x_len Try.underlying102 (tmS rfl rfl)) ?_
                   refine wl_v (x_lss (tmI rfl rfl) (tmI rfl rfl)) ?_
                   refine wl_nil ?_
                   refine then_n (hK35 _ _ ?_); clear hK35 K35
                   refine cnd (tm rfl) (fun hc6 => ?_) (fun hc6 => ?_)
                   · try (exfalso; first | with_reducible exact absurd hc6 Bool.false_ne_true | with_reducible exact absurd hc6.symm Bool.false_ne_true | (simp only [nrm] at hc6; omega) | (simp at hc6; done))
                     all_goals
                      try simp only [nrm] at hc6
                      obtain ⟨gi, rfl⟩ := row_some (hS.rowOk 2 rfl) (by omega)
                      refine wp_skip ?_
                      refine then_n (hK34 _ _ ?_); clear hK34 K34
                      refine wp_seq_k ?_; intro K36 hK36
                      refine wp_block ?_
                      refine wp_seq_k ?_; intro K37 hK37
                      refine rg_startk 0 hS mixed_ ?_
                      clear hS; intro w hS
                      refine rg_take 0 rfl rfl (by kernel_rfl) (by kernel_rfl) (by kernel_rfl) (want_0) (fun w hok => x_move (tmS rfl rfl)) ?_
                      refine rg_take 1 rfl rfl (by kernel_rfl) (by kernel_rfl) (by kernel_rfl) (want_0) (fun w hok => x_move (tmI rfl rfl)) ?_
                      refine rg_take 2 rfl rfl (by kernel_rfl) (by kernel_rfl) (by kernel_rfl) (want_0) (fun w hok => x_ixs1 Try.underlying102 ts_9 (tmS rfl rfl) (tmI rfl rfl) (by omega)) ?_
                      refine rg_take 3 rfl rfl (by kernel_rfl) (by kernel_rfl) (by kernel_rfl) (want_0) (fun w hok => x_load Try.underlying9 rfl (tmP rfl rfl) (cellR hok 2 rfl (idsL_get (by omega)))) ?_
                      refine rg_take 4 rfl rfl (by kernel_rfl) (by kernel_rfl) (by kernel_rfl) (want_0) (fun w hok => x_move (tmS rfl rfl)) ?_
                      first
                       | refine rg_take 5 rfl rfl (by kernel_rfl) (by kernel_rfl) (by kernel_rfl) (want_0) (fun w hok => x_bstr Try.underlying22 Try.underlying5 Try.underlying9 (tmS rfl rfl) (viewR hok 0 rfl) (by first | assumption | exact Bytes.nil | (repeat' (first | assumption | exact Bytes.nil | exact be_bytes _ _ | apply Bytes.append | apply Bytes.take | apply Bytes.drop | apply Bytes.replicate))) (by first | rfl | assumption | (simp; done) | (simp; omega) | omega)) ?_
                       | refine rg_take 5 rfl rfl (by kernel_rfl) (by kernel_rfl) (by kernel_rfl) (want_0) (fun w hok => x_bstr Try.underlying22 Try.underlying5 Try.underlying9 (tmS rfl rfl) (viewR hok 2 rfl) (by first | assumption | exact Bytes.nil | (repeat' (first | assumption | exact Bytes.nil | exact be_bytes _ _ | apply Bytes.append | apply Bytes.take | apply Bytes.drop | apply Bytes.replicate))) (by first | rfl | assumption | (simp; done) | (simp; omega) | omega)) ?_
                       | refine rg_take 5 rfl rfl (by kernel_rfl) (by kernel_rfl) (by kernel_rfl) (want_0) (fun w hok => x_bstr (l := []) Try.underlying22 Try.underlying5 Try.underlying9 (tmS rfl rfl) View.nil_ (by first | assumption | exact Bytes.nil | (repeat' (first | assumption | exact Bytes.nil | exact be_bytes _ _ | apply Bytes.append | apply Bytes.take | apply Bytes.drop | apply Bytes.replicate))) (by first | rfl | assumption | (simp; done) | (simp; omega) | omega)) ?_
                      refine rg_take 6 rfl rfl (by kernel_rfl) (by kernel_rfl) (by kernel_rfl) (want_0) (fun w hok => x_Geql (tmG rfl rfl) (tmG rfl rfl) (by first | assumption | exact Bytes.nil | (repeat' (first | assumption | exact Bytes.nil | exact be_bytes _ _ | apply Bytes.append | apply Bytes.take | apply Bytes.drop | apply Bytes.replicate))) (by first | assumption | exact Bytes.nil | (repeat' (first | assumption | exact Bytes.nil | exact be_bytes _ _ | apply Bytes.append | apply Bytes.take | apply Bytes.drop | apply Bytes.replicate)))) ?_
                      refine rg_done (oks_drop hS 0 rfl) (by kernel_rfl) ?_
                      refine then_n (hK37 _ _ ?_); clear hK37 K37
                      refine cnd (tm rfl) (fun hc7 => ?_) (fun hc7 => ?_)
                      · exfalso
                        simp at hc7
                        exact id_ne (by omega) hrM.2 hc7
                      try (exfalso; first | with_reducible exact absurd hc7 Bool.false_ne_true | with_reducible exact absurd hc7.symm Bool.false_ne_true | (simp only [nrm] at hc7; omega) | (simp at hc7; done))
                      all_goals
                       try simp only [nrm] at hc7
                       refine wp_skip ?_
                       refine inb_n ?_
                       refine then_n (hK36 _ _ ?_); clear hK36 K36
                       refine wlit ?_
                       refine wl_v (x_move (tmI rfl rfl)) ?_
                       first
                        | refine wl_v (x_addN (tmI rfl rfl) (ev_cN 1) (fit_i64 (by omega))) ?_
                        | refine wl_v (x_addI (tmI rfl rfl) (ev_cN 1) (IntWalk.i64_in _ (by omega))) ?_
                        | refine wl_v (x_add (tmI rfl rfl) (ev_cN 1)) ?_
                       refine wl_v (x_assign (tmI rfl rfl)) ?_
                       refine wl_nil ?_
                       exact then_n ⟨_, _, rfl, (by show _ < _; omega), (by repeat (first | exact agree_self | exact agree_refl | refine agree_upd rfl ?_ | refine agree_mix rfl ?_)), i + 1, rfl, (by first | rfl | go_num | exact congrArg (Value.int _) (by first | omega | (simp; done) | (simp; omega))), hS, (by omega)⟩
                   try (exfalso; first | with_reducible exact absurd hc6 Bool.false_ne_true | with_reducible exact absurd hc6.symm Bool.false_ne_true | (simp only [nrm] at hc6; omega) | (simp at hc6; done))
                   all_goals
                    try simp only [nrm] at hc6
                    refine wp_exit ?_
                    refine then_x ?_; clear hK34 K34
                    refine then_x ?_
                    refine inb_x ?_
                    refine then_n (hK32 _ _ ?_); clear hK32 K32
                    refine wp_seq_k ?_; intro K38 hK38
                    refine wlit ?_
                    refine wl_v (x_move (tmS rfl rfl)) ?_
                    refine wl_v (x_move (tmS rfl rfl)) ?_
                    first
                     | refine wl_v (x_bstr Try.underlying22 Try.underlying5 Try.underlying9 (tmS rfl rfl) (viewR hS.ok 0 rfl) (by first | assumption | exact Bytes.nil | (repeat' (first | assumption | exact Bytes.nil | exact be_bytes _ _ | apply Bytes.append | apply Bytes.take | apply Bytes.drop | apply Bytes.replicate))) (by first | rfl | assumption | (simp; done) | (simp; omega) | omega)) ?_
                     | refine wl_v (x_bstr Try.underlying22 Try.underlying5 Try.underlying9 (tmS rfl rfl) (viewR hS.ok 2 rfl) (by first | assumption | exact Bytes.nil | (repeat' (first | assumption | exact Bytes.nil | exact be_bytes _ _ | apply Bytes.append | apply Bytes.take | apply Bytes.drop | apply Bytes.replicate))) (by first | rfl | assumption | (simp; done) | (simp; omega) | omega)) ?_
                     | refine wl_v (x_bstr (l := []) Try.underlying22 Try.underlying5 Try.underlying9 (tmS rfl rfl) View.nil_ (by first | assumption | exact Bytes.nil | (repeat' (first | assumption | exact Bytes.nil | exact be_bytes _ _ | apply Bytes.append | apply Bytes.take | apply Bytes.drop | apply Bytes.replicate))) (by first | rfl | assumption | (simp; done) | (simp; omega) | omega)) ?_
                    refine wl_e rfl ?_; intro K hK
                    refine ow_build hS Try.underlying102 tz_9 (bc_take (tmG rfl rfl) <| bc_nil) rfl rfl (by kernel_rfl) ?_
                    clear hS; intro g25_3 w hg25_3 hS
                    refine hK _ _ ?_; clear hK K
                    refine wl_e rfl ?_; intro K hK
                    first
                     | (refine ow_append hS 1 0 rfl rfl Try.underlying102 tz_9 rfl (tmS rfl rfl) (tmS rfl rfl) rfl ⟨by decide, by decide, rfl⟩ (by simp only [maxLen]; omega) (by omega) ?_; clear hS; intro g25_4 cg25_4 w hS)
                     | (refine ow_append hS 3 0 rfl rfl Try.underlying102 tz_9 rfl (tmS rfl rfl) (tmS rfl rfl) rfl ⟨by decide, by decide, rfl⟩ (by simp only [maxLen]; omega) (by omega) ?_; clear hS; intro g25_4 cg25_4 w hS)
                    refine hK _ _ ?_; clear hK K
                    refine wl_v (x_assign (tmS rfl rfl)) ?_
                    refine wl_nil ?_
                    refine then_n (hK38 _ _ ?_); clear hK38 K38
                    refine wlit ?_
                    refine wl_v (x_loadA (cs := [_, _]) Try.underlying98 rfl ts_98 (tmP rfl rfl) (rangeB hS.ok 2 rfl rfl)) ?_
                    refine wl_e rfl ?_; intro K hK
                    refine ow_storeA hS 6 rfl ts_98 (tmP rfl rfl) (tmA rfl rfl) rfl rfl rfl ?_
                    clear hS; intro w hS
                    refine hK _ _ ?_; clear hK K
                    refine wl_nil ?_
                    refine inb_n ?_
                    refine then_n (hK16 _ _ ?_); clear hK16 K16
                    refine wlit ?_
                    refine wl_v (x_move (tmI rfl rfl)) ?_
                    first
                     | refine wl_v (x_addN (tmI rfl rfl) (ev_cN 1) (fit_i64 (by omega))) ?_
                     | refine wl_v (x_addI (tmI rfl rfl) (ev_cN 1) (IntWalk.i64_in _ (by omega))) ?_
                     | refine wl_v (x_add (tmI rfl rfl) (ev_cN 1)) ?_
                    refine wl_v (x_assign (tmI rfl rfl)) ?_
                    refine wl_nil ?_
                    exact then_n ⟨_, _, rfl, (by show _ < _; omega), (by repeat (first | exact agree_self | exact agree_refl | refine agree_upd rfl ?_ | refine agree_mix rfl ?_)), j + 1, _, _, rfl, (by first | rfl | go_num | exact congrArg (Value.int _) (by first | omega | (simp; done) | (simp; omega))), (by first | rfl | go_num | exact congrArg (Value.int _) (by first | omega | (simp; done) | (simp; omega))), (by rw [← idsL_snoc]; exact hS.pick [3, 4, 5, 6, 7] rfl rfl), (by omega), (by omega)⟩
         try (exfalso; first | with_reducible exact absurd hc2 Bool.false_ne_true | with_reducible exact absurd hc2.symm Bool.false_ne_true | (simp only [nrm] at hc2; omega) | (simp at hc2; done))
         all_goals
          try simp only [nrm] at hc2
          refine wp_exit ?_
          refine then_x ?_; clear hK14 K14
          refine then_x ?_
          refine inb_x ?_
          refine then_n (hK12 _ _ ?_); clear hK12 K12
          refine wp_seq_k ?_; intro K39 hK39
          refine wlit ?_
          refine wl_e rfl ?_; intro K hK
          refine ow_call Try.func49 rfl rfl (evs_nil) (law13_awake_c _) ?_
          rintro e w ⟨rfl, hk⟩
          refine ⟨_, rfl, ?_⟩
          replace hS := hS.kept hk
          clear hk
          refine hK _ _ ?_; clear hK K
          refine wl_v (x_assign (tmB rfl rfl)) ?_
          refine wl_nil ?_
          refine then_n (hK39 _ _ ?_); clear hK39 K39
          refine wp_ret ?_
          refine ret1 rfl (.tmp rfl (show _ = Value.bool _ from rfl)) ?_
          exact ⟨rfl, hS.kp.below⟩
set_option maxRecDepth 100000 in
theorem walk (v0 v1 v2 : Value) (a3 : Int) (w0 : World) {H : Type} {enc : TypeId × Value → H} {r : Reach} {b0 b1 b2 : Nat} {d0 d1 d2 : DataW H} {p0 p1 p2 : List MemPlace}
    (hval0 : Value.okWide Try.prog w0 r b0 66 v0) (hd0 : DataW.Trod enc Try.prog w0 0 (fun _ => true) true 66 v0 d0 p0) (hlt0 : ∀ p ∈ p0, p.block < w0.heap.size)
    (hval1 : Value.okWide Try.prog w0 r b1 98 v1) (hd1 : DataW.Trod enc Try.prog w0 0 (fun _ => true) true 98 v1 d1 p1) (hlt1 : ∀ p ∈ p1, p.block < w0.heap.size)
    (hval2 : Value.okWide Try.prog w0 r b2 88 v2) (hd2 : DataW.Trod enc Try.prog w0 0 (fun _ => true) true 88 v2 d2 p2) (hlt2 : ∀ p ∈ p2, p.block < w0.heap.size)
    (w3 : 0 ≤ a3 ∧ a3 < 18446744073709551616) :
    Calls Try.prog 11 #[v0, v1, v2, .int .u64 a3] w0 fun e w' => e = .returned (.bool true) ∧ Below w0.heap.size w0 w' := by
  obtain ⟨x, rfl, hx⟩ := RRing.open_a hval0 hd0 hlt0
  obtain ⟨y, rfl, hy⟩ := GLease.open_a hval1 hd1 hlt1
  obtain ⟨z, rfl, hz⟩ := GPlace.open_a hval2 hd2 hlt2
  obtain ⟨c, rfl⟩ := Int.eq_ofNat_of_zero_le w3.1
  obtain ⟨k, u⟩ := x
  obtain ⟨n, e⟩ := y
  obtain ⟨v, s⟩ := z
  exact walkC k u n e v s c w0 hx.1 hx.2 hy.1 hy.2 (by omega)
end CidLeases
end Go.Proofs.Ytilgolflpdpfnaa
