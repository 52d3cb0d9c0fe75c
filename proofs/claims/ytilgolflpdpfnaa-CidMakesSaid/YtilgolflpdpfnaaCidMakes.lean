
/- Proved: CidMakes returns true for every ring, place and number, and changes no memory that was there. Conditions: none. -/
import Derived.Test.YtilgolflpdpfnaaCidA
namespace Go.Proofs.Ytilgolflpdpfnaa
open Go.ChangeShapes Go.WideShapes Go.ChangeAt Go.RowKit
structure GPlace where
  version : Int
  slot : Int
def GPlace.V (s : GPlace) : List Value := [.int .i64 s.version, .int .i64 s.slot]
theorem GPlace.len (s : GPlace) : s.V.length = 2 := rfl
def GPlace.ok (w : World) (s : GPlace) : Prop := (-9223372036854775808 ≤ s.version ∧ s.version ≤ 9223372036854775807) ∧ (-9223372036854775808 ≤ s.slot ∧ s.slot ≤ 9223372036854775807)
instance : Inhabited GPlace := ⟨⟨0, 0⟩⟩
set_option maxRecDepth 100000 in
theorem GPlace.open_t {H : Type} {enc : TypeId × Value → H} {w : World} {fuel : Nat} {cs : List Value} {x : DataW H × List MemPlace} (hf : DataW.trod enc Try.prog w 0 (fun _ => true) true fuel 88 cs = some x) (hlt : ∀ p ∈ x.2, p.block < w.heap.size) : ∃ s : GPlace, cs = s.V ∧ s.ok w := by
  have hC : Try.prog.cellsOf 88 = 2 := by kernel_rfl
  have hl := (DataW.trod_struct Try.underlying88 hf).choose_spec.choose_spec.2.2.1
  rw [hC] at hl
  obtain ⟨y0, k0, t0, b0⟩ := field_t Try.underlying88 hf hlt 0 _ rfl
  have hC0 : Try.prog.cellsOf 3 = 1 := by kernel_rfl
  obtain ⟨s0, e0, o0⟩ := t_i64 Try.underlying3 t0 b0
  have d0 := split_drop cs 0 1 (hC0 ▸ e0)
  obtain ⟨y1, k1, t1, b1⟩ := field_t Try.underlying88 hf hlt 1 _ rfl
  have hC1 : Try.prog.cellsOf 3 = 1 := by kernel_rfl
  obtain ⟨s1, e1, o1⟩ := t_i64 Try.underlying3 t1 b1
  have d1 := split_drop cs 1 1 (hC1 ▸ e1)
  refine ⟨⟨s0, s1⟩, ?_, ⟨o0, o1⟩⟩
  have dn : cs.drop 2 = [] := List.drop_eq_nil_of_le (by omega)
  rw [← List.drop_zero (l := cs)]
  refine d0.trans ?_
  rw [show cs.drop (0 + 1) = _ from d1]
  rw [show cs.drop (1 + 1) = [] from dn]
  rfl
set_option maxRecDepth 100000 in
theorem GPlace.open_a {H : Type} {enc : TypeId × Value → H} {w : World} {r : Reach} {b0 : Nat} {v : Value} {d : DataW H} {ps : List MemPlace} (hval : Value.okWide Try.prog w r b0 88 v) (hd : DataW.Trod enc Try.prog w 0 (fun _ => true) true 88 v d ps) (hlt : ∀ p ∈ ps, p.block < w.heap.size) : ∃ s : GPlace, v = .agg s.V.toArray ∧ s.ok w := by
  obtain ⟨cs, rfl, _⟩ := okWide_struct Try.underlying88 hval
  obtain ⟨fuel, hf⟩ := hd
  obtain ⟨s, e, h⟩ := GPlace.open_t hf hlt
  exact ⟨s, by rw [← e]; simp [Value.cells], h⟩
namespace CidMakes
theorem at_next (k : Nat → Nat) (u : Nat) : atK k (u + 1) ((u % 2 : Nat) : Int) = derF k u ∧ atB (u + 1) ((u % 2 : Nat) : Int) = true := by
  have h := at2 (k := k) (u := u + 1) (bit := ((u % 2 : Nat) : Int)) (by omega) (by omega) (by omega)
  rwa [Nat.add_sub_cancel] at h
set_option maxRecDepth 100000 in
set_option maxHeartbeats 4000000 in
theorem walkC (k : Nat → Nat) (u : Nat) (v s : Int) (o : Nat) (w0 : World) (hkb : Bytes (kL k)) (hu : u < 18446744073709551616) (ho : o < 18446744073709551616) :
    Calls Try.prog 9 #[.agg (rgC k u).toArray, .agg (plV v s).toArray, .int .u64 (o : Int)] w0 fun e w' => e = .returned (.bool true) ∧ Below w0.heap.size w0 w' := by
  have hS := St.sv w0
  by_cases hr : rightM v s o
  · obtain ⟨⟨r1, r2, r3, r4⟩, r5⟩ := id hr
    obtain ⟨v, rfl⟩ := Int.eq_ofNat_of_zero_le r1
    obtain ⟨t, rfl⟩ := Int.eq_ofNat_of_zero_le r3
    have hRt := fun w => right13_g (v : Int) (t : Int) o w
    rw [decide_eq_true hr] at hRt
    have hv8 : v < 8 := by omega
    have ht4 : t < 4096 := by omega
    obtain ⟨l, hl⟩ : ∃ l, l = idB (derF k u) (u % 2) (v * 4096 + t) o := ⟨_, rfl⟩
    have hM := fun w => cid_make_c k u v t o w hkb (by omega) hv8 ht4 r5
    have hR := fun w => rcid_make_c k u v t o w hkb (by omega) hv8 ht4 r5
    rw [← hl] at hM hR
    have hll : l.length = 12 := by rw [hl, idB_len]
    have hlb : Bytes l := by rw [hl]; exact idB_bytes _ _ _ _
    obtain ⟨e1, e2⟩ := at1 (k := k) (u := u) (bit := ((u % 2 : Nat) : Int)) rfl
    obtain ⟨i1, i2, i3, i4⟩ := id_ok hv8 ht4 r5 e2 e1 l hl
    have hI := fun A c w hv hc => cid_read_c k u A c l w hkb (by omega) hv hll hc hlb _ _ 0 (.inl ⟨i1, rfl, rfl, rfl⟩)
    rw [i2, i3, i4] at hI
    obtain ⟨x2, o2, f2, hR2, hq⟩ : ∃ x2 o2 f2, ((tagOk k ((u + 1) % 2 ^ 64) l ∧ x2 = idX k ((u + 1) % 2 ^ 64) l ∧ o2 = numBE (l.take 5) ∧ f2 = 0) ∨ (¬ tagOk k ((u + 1) % 2 ^ 64) l ∧ x2 = 0 ∧ o2 = 0 ∧ f2 = 26)) ∧ (u ≠ 18446744073709551615 → x2 / 4096 % 8 = v ∧ x2 % 4096 = t ∧ o2 = o ∧ f2 = 0) := by
      by_cases hu1 : u = 18446744073709551615
      · by_cases h : tagOk k ((u + 1) % 2 ^ 64) l
        · exact ⟨_, _, _, .inl ⟨h, rfl, rfl, rfl⟩, fun h9 => absurd hu1 h9⟩
        · exact ⟨_, _, _, .inr ⟨h, rfl, rfl, rfl⟩, fun h9 => absurd hu1 h9⟩
      · rw [show (u + 1) % 2 ^ 64 = u + 1 by omega]
        obtain ⟨j1, j2, j3, j4⟩ := id_ok hv8 ht4 r5 (at_next k u).2 (at_next k u).1 l hl
        exact ⟨_, _, _, .inl ⟨j1, rfl, rfl, rfl⟩, fun _ => ⟨j2, j3, j4, rfl⟩⟩
    have hJ := fun A c w hv hc => cid_read_c k ((u + 1) % 2 ^ 64) A c l w hkb (by omega) hv hll hc hlb x2 o2 f2 hR2
    clear hR2 hl
    obtain ⟨v2, hv2⟩ : ∃ v2, x2 / 4096 % 8 = v2 := ⟨_, rfl⟩
    obtain ⟨t2, ht2⟩ : ∃ t2, x2 % 4096 = t2 := ⟨_, rfl⟩
    rw [hv2, ht2] at hJ hq
    clear hv2 ht2
    refine ent (n := 109) Try.func9 rfl rfl ?_
    refine wp_seq_k ?_; intro K1 hK1
    refine wlit ?_
    refine wl_e rfl ?_; intro K hK
    refine ow_box hS (tmA rfl rfl) rfl ?_
    clear hS; intro g0_0 w hg0_0 hS
    refine hK _ _ ?_; clear hK K
    refine wl_e rfl ?_; intro K hK
    refine ow_box hS (tmA rfl rfl) rfl ?_
    clear hS; intro g0_1 w hg0_1 hS
    refine hK _ _ ?_; clear hK K
    refine wl_v (x_assign ev_c) ?_
    refine wl_nil ?_
    refine then_n (hK1 _ _ ?_); clear hK1 K1
    refine wp_seq_k ?_; intro K2 hK2
    refine wlit ?_
    refine wl_v (x_fa 0 Try.underlying66 rfl rfl ts_64 (tmP rfl rfl)) ?_
    refine wl_v (x_loadA (cs := [_, _, _, _, _, _, _, _, _, _, _, _, _, _, _, _]) Try.underlying64 rfl ts_64 (tmP rfl rfl) (rangeB hS.ok 1 rfl rfl)) ?_
    refine wl_v (x_fa 16 Try.underlying66 rfl rfl ts_24 (tmP rfl rfl)) ?_
    first
     | refine wl_v (x_load Try.underlying24 rfl (tmP rfl rfl) (cellB hS.ok 1 rfl rfl)) ?_
     | refine wl_v (x_load Try.underlying24 rfl (tmP rfl rfl) (cellB hS.ok 1 rfl (getm (by omega)))) ?_
    refine wl_e rfl ?_; intro K hK
    refine ow_call Try.func36 rfl rfl (evs_cons (tmA rfl rfl) <| evs_cons (tmI rfl rfl) <| evs_nil) (ring_new_c k u _) ?_
    rintro e w ⟨rfl, hk⟩
    refine ⟨_, rfl, ?_⟩
    replace hS := hS.kept hk
    clear hk
    refine hK _ _ ?_; clear hK K
    refine wl_e rfl ?_; intro K hK
    refine ow_alloc hS tz_69 rfl ?_
    clear hS; intro g1_5 w hg1_5 hS
    refine hK _ _ ?_; clear hK K
    refine wl_e rfl ?_; intro K hK
    refine ow_storeA hS 0 rfl ts_69 (tmP rfl rfl) (tmA rfl rfl) rfl rfl rfl ?_
    clear hS; intro w hS
    try replace hS := St.nm (M' := [.blk _ _ [_, _, _, _, _, _, _, _, _, _, _, _, _, _, _, _, _], .blk _ _ [_, _], .blk _ _ [_, _, _, _, _, _, _, _, _, _, _, _, _, _, _, _, _], _]) hS rfl
    refine hK _ _ ?_; clear hK K
    refine wl_nil ?_
    refine then_n (hK2 _ _ ?_); clear hK2 K2
    refine wp_seq_k ?_; intro K3 hK3
    refine wlit ?_
    refine wl_v (x_loadA (cs := [_, _, _, _, _, _, _, _, _, _, _, _, _, _, _, _, _]) Try.underlying69 rfl ts_69 (tmP rfl rfl) (rangeB hS.ok 0 rfl rfl)) ?_
    refine wl_v (x_loadA (cs := [_, _]) Try.underlying88 rfl ts_88 (tmP rfl rfl) (rangeB hS.ok 1 rfl rfl)) ?_
    refine wl_v (x_move (tmI rfl rfl)) ?_
    refine wl_e rfl ?_; intro K hK
    refine ow_call Try.func47 rfl rfl (evs_cons (tmA rfl rfl) <| evs_cons (tmA rfl rfl) <| evs_cons (tmI rfl rfl) <| evs_nil) (hM _) ?_
    rintro e w ⟨A1, c1, rfl, hn, hk⟩
    refine ⟨_, rfl, ?_⟩
    replace hS := hS.add hk hn -- +rowa
    have hcap := row_cap (hS.rowOk 0 rfl) (by omega)
    clear hn hk
    refine hK _ _ ?_; clear hK K
    refine wl_v (x_move (tmT rfl rfl)) ?_
    refine wl_v (x_ext (tmT rfl rfl) rfl) ?_
    refine wl_v (x_ext (tmT rfl rfl) rfl) ?_
    refine wl_v (x_assign (tmS rfl rfl)) ?_
    refine wl_v (x_assign (tmI rfl rfl)) ?_
    refine wl_nil ?_
    refine then_n (hK3 _ _ ?_); clear hK3 K3
    refine wp_seq_k ?_; intro K4 hK4
    refine wp_seq_k ?_; intro K5 hK5
    refine wlit ?_
    refine wl_v (x_fa 0 Try.underlying88 rfl rfl ts_3 (tmP rfl rfl)) ?_
    first
     | refine wl_v (x_load Try.underlying3 rfl (tmP rfl rfl) (cellB hS.ok 2 rfl rfl)) ?_
     | refine wl_v (x_load Try.underlying3 rfl (tmP rfl rfl) (cellB hS.ok 2 rfl (getm (by omega)))) ?_
    refine wl_v (x_fa 1 Try.underlying88 rfl rfl ts_3 (tmP rfl rfl)) ?_
    first
     | refine wl_v (x_load Try.underlying3 rfl (tmP rfl rfl) (cellB hS.ok 2 rfl rfl)) ?_
     | refine wl_v (x_load Try.underlying3 rfl (tmP rfl rfl) (cellB hS.ok 2 rfl (getm (by omega)))) ?_
    refine wl_v (x_move (tmI rfl rfl)) ?_
    refine wl_e rfl ?_; intro K hK
    refine ow_call Try.func48 rfl rfl (evs_cons (tmI rfl rfl) <| evs_cons (tmI rfl rfl) <| evs_cons (tmI rfl rfl) <| evs_nil) (hRt _) ?_
    rintro e w ⟨rfl, hk⟩
    refine ⟨_, rfl, ?_⟩
    replace hS := hS.kept hk
    clear hk
    refine hK _ _ ?_; clear hK K
    refine wl_v (x_not (tmB rfl rfl)) ?_
    refine wl_nil ?_
    refine then_n (hK5 _ _ ?_); clear hK5 K5
    refine cnd (tm rfl) (fun hc0 => ?_) (fun hc0 => ?_)
    · exfalso
      simp at hc0
    try (exfalso; first | with_reducible exact absurd hc0 Bool.false_ne_true | with_reducible exact absurd hc0.symm Bool.false_ne_true | (simp only [nrm] at hc0; omega) | (simp at hc0; done))
    all_goals
     try simp only [nrm] at hc0
     refine wp_skip ?_
     refine then_n (hK4 _ _ ?_); clear hK4 K4
     refine wp_seq_k ?_; intro K6 hK6
     refine wp_seq_k ?_; intro K7 hK7
     refine rg_startk 0 hS mixed_ ?_
     clear hS; intro w hS
     refine rg_take 0 rfl rfl (by kernel_rfl) (by kernel_rfl) (by kernel_rfl) (want_0) (fun w hok => x_move (tmI rfl rfl)) ?_
     refine rg_take 1 rfl rfl (by kernel_rfl) (by kernel_rfl) (by kernel_rfl) (want_0) (fun w hok => x_neq (tmI rfl rfl) (ev_cN 0)) ?_
     refine rg_take 2 rfl rfl (by kernel_rfl) (by kernel_rfl) (by kernel_rfl) (want_0) (fun w hok => x_move (tmB rfl rfl)) ?_
     refine gs_rg (tm (t := 47) rfl) (fun hg5_2 => ?_) (fun hg5_2 => ?_)
     · exfalso
       simp at hg5_2
     have hg5_2' := hg5_2; (try simp only [nrm] at hg5_2'); try (exfalso; first | with_reducible exact absurd hg5_2 Bool.false_ne_true | with_reducible exact absurd hg5_2.symm Bool.false_ne_true | omega | (simp at hg5_2; done))
     all_goals
      refine rg_take 3 rfl rfl (by kernel_rfl) (by kernel_rfl) (by kernel_rfl) (want_y rfl rfl rfl rfl (by rw [hg5_2]; rfl)) (fun w hok => x_move (tmS rfl rfl)) ?_
      first
       | refine rg_take 4 rfl rfl (by kernel_rfl) (by kernel_rfl) (by kernel_rfl) (want_y rfl rfl rfl rfl (by rw [hg5_2]; rfl)) (fun w hok => x_bstr Try.underlying22 Try.underlying5 Try.underlying9 (tmS rfl rfl) (viewR hok 0 rfl) (by first | assumption | exact Bytes.nil | (repeat' (first | assumption | exact Bytes.nil | exact be_bytes _ _ | apply Bytes.append | apply Bytes.take | apply Bytes.drop | apply Bytes.replicate))) (by first | rfl | assumption | (simp; done) | (simp; omega) | omega)) ?_
       | refine rg_take 4 rfl rfl (by kernel_rfl) (by kernel_rfl) (by kernel_rfl) (want_y rfl rfl rfl rfl (by rw [hg5_2]; rfl)) (fun w hok => x_bstr Try.underlying22 Try.underlying5 Try.underlying9 (tmS rfl rfl) (viewB hok 4 rfl) (by first | assumption | exact Bytes.nil | (repeat' (first | assumption | exact Bytes.nil | exact be_bytes _ _ | apply Bytes.append | apply Bytes.take | apply Bytes.drop | apply Bytes.replicate))) (by first | rfl | assumption | (simp; done) | (simp; omega) | omega)) ?_
       | refine rg_take 4 rfl rfl (by kernel_rfl) (by kernel_rfl) (by kernel_rfl) (want_y rfl rfl rfl rfl (by rw [hg5_2]; rfl)) (fun w hok => x_bstr (l := []) Try.underlying22 Try.underlying5 Try.underlying9 (tmS rfl rfl) View.nil_ (by first | assumption | exact Bytes.nil | (repeat' (first | assumption | exact Bytes.nil | exact be_bytes _ _ | apply Bytes.append | apply Bytes.take | apply Bytes.drop | apply Bytes.replicate))) (by first | rfl | assumption | (simp; done) | (simp; omega) | omega)) ?_
      refine rg_take 5 rfl rfl (by kernel_rfl) (by kernel_rfl) (by kernel_rfl) (want_y rfl rfl rfl rfl (by rw [hg5_2]; rfl)) (fun w hok => x_loadA (cs := [_, _, _, _, _, _, _, _, _, _, _, _, _, _, _, _, _]) Try.underlying66 rfl ts_66 (tmP rfl rfl) (rangeB hok 3 rfl rfl)) ?_
      refine rg_take 6 rfl rfl (by kernel_rfl) (by kernel_rfl) (by kernel_rfl) (want_y rfl rfl rfl rfl (by rw [hg5_2]; rfl)) (fun w hok => x_fa 0 Try.underlying88 rfl rfl ts_3 (tmP rfl rfl)) ?_
      first
       | refine rg_take 7 rfl rfl (by kernel_rfl) (by kernel_rfl) (by kernel_rfl) (want_y rfl rfl rfl rfl (by rw [hg5_2]; rfl)) (fun w hok => x_load Try.underlying3 rfl (tmP rfl rfl) (cellB hok 2 rfl rfl)) ?_
       | refine rg_take 7 rfl rfl (by kernel_rfl) (by kernel_rfl) (by kernel_rfl) (want_y rfl rfl rfl rfl (by rw [hg5_2]; rfl)) (fun w hok => x_load Try.underlying3 rfl (tmP rfl rfl) (cellB hok 2 rfl (getm (by omega)))) ?_
      refine rg_take 8 rfl rfl (by kernel_rfl) (by kernel_rfl) (by kernel_rfl) (want_y rfl rfl rfl rfl (by rw [hg5_2]; rfl)) (fun w hok => x_fa 1 Try.underlying88 rfl rfl ts_3 (tmP rfl rfl)) ?_
      first
       | refine rg_take 9 rfl rfl (by kernel_rfl) (by kernel_rfl) (by kernel_rfl) (want_y rfl rfl rfl rfl (by rw [hg5_2]; rfl)) (fun w hok => x_load Try.underlying3 rfl (tmP rfl rfl) (cellB hok 2 rfl rfl)) ?_
       | refine rg_take 9 rfl rfl (by kernel_rfl) (by kernel_rfl) (by kernel_rfl) (want_y rfl rfl rfl rfl (by rw [hg5_2]; rfl)) (fun w hok => x_load Try.underlying3 rfl (tmP rfl rfl) (cellB hok 2 rfl (getm (by omega)))) ?_
      refine rg_take 10 rfl rfl (by kernel_rfl) (by kernel_rfl) (by kernel_rfl) (want_y rfl rfl rfl rfl (by rw [hg5_2]; rfl)) (fun w hok => x_move (tmI rfl rfl)) ?_
      refine rg_step 11 rfl (by kernel_rfl) (want_y rfl rfl rfl rfl (by rw [hg5_2]; rfl)) (oks_drop hS 0 rfl) ?_; intro K hK
      refine ow_call Try.func50 rfl rfl (evs_cons (tmA rfl rfl) <| evs_cons (tmI rfl rfl) <| evs_cons (tmI rfl rfl) <| evs_cons (tmI rfl rfl) <| evs_nil) (hR _) ?_
      rintro e w ⟨A2, c2, rfl, hn, hk⟩
      refine ⟨_, rfl, ?_⟩
      replace hS := hS.add hk hn -- +rowb
      clear hn hk
      refine hK _ _ ?_; clear hK K
      refine rg_step 12 rfl (by kernel_rfl) (want_y rfl rfl rfl rfl (by rw [hg5_2]; rfl)) (oks_drop hS 1 rfl) ?_; intro K hK
      first
       | refine ow_v (x_bstr Try.underlying22 Try.underlying5 Try.underlying9 (tmS rfl rfl) (viewR hS.ok 0 rfl) (by first | assumption | exact Bytes.nil | (repeat' (first | assumption | exact Bytes.nil | exact be_bytes _ _ | apply Bytes.append | apply Bytes.take | apply Bytes.drop | apply Bytes.replicate))) (by first | rfl | assumption | (simp; done) | (simp; omega) | omega)) ?_
       | refine ow_v (x_bstr Try.underlying22 Try.underlying5 Try.underlying9 (tmS rfl rfl) (viewR hS.ok 1 rfl) (by first | assumption | exact Bytes.nil | (repeat' (first | assumption | exact Bytes.nil | exact be_bytes _ _ | apply Bytes.append | apply Bytes.take | apply Bytes.drop | apply Bytes.replicate))) (by first | rfl | assumption | (simp; done) | (simp; omega) | omega)) ?_
       | refine ow_v (x_bstr Try.underlying22 Try.underlying5 Try.underlying9 (tmS rfl rfl) (viewB hS.ok 5 rfl) (by first | assumption | exact Bytes.nil | (repeat' (first | assumption | exact Bytes.nil | exact be_bytes _ _ | apply Bytes.append | apply Bytes.take | apply Bytes.drop | apply Bytes.replicate))) (by first | rfl | assumption | (simp; done) | (simp; omega) | omega)) ?_
       | refine ow_v (x_bstr (l := []) Try.underlying22 Try.underlying5 Try.underlying9 (tmS rfl rfl) View.nil_ (by first | assumption | exact Bytes.nil | (repeat' (first | assumption | exact Bytes.nil | exact be_bytes _ _ | apply Bytes.append | apply Bytes.take | apply Bytes.drop | apply Bytes.replicate))) (by first | rfl | assumption | (simp; done) | (simp; omega) | omega)) ?_
      refine hK _ _ ?_; clear hK K
      refine rg_take 13 rfl rfl (by kernel_rfl) (by kernel_rfl) (by kernel_rfl) (want_y rfl rfl rfl rfl (by rw [hg5_2]; rfl)) (fun w hok => x_Gneq (tmG rfl rfl) (tmG rfl rfl) (by first | assumption | exact Bytes.nil | (repeat' (first | assumption | exact Bytes.nil | exact be_bytes _ _ | apply Bytes.append | apply Bytes.take | apply Bytes.drop | apply Bytes.replicate))) (by first | assumption | exact Bytes.nil | (repeat' (first | assumption | exact Bytes.nil | exact be_bytes _ _ | apply Bytes.append | apply Bytes.take | apply Bytes.drop | apply Bytes.replicate)))) ?_
      refine rg_take 14 rfl rfl (by kernel_rfl) (by kernel_rfl) (by kernel_rfl) (want_0) (fun w hok => x_pickF (tmB rfl rfl) hg5_2 (tmB rfl rfl)) ?_
      refine rg_done (oks_drop hS 1 rfl) (by kernel_rfl) ?_
      refine then_n (hK7 _ _ ?_); clear hK7 K7
      refine cnd (tm rfl) (fun hc1 => ?_) (fun hc1 => ?_)
      · exfalso
        simp at hc1
      try (exfalso; first | with_reducible exact absurd hc1 Bool.false_ne_true | with_reducible exact absurd hc1.symm Bool.false_ne_true | (simp only [nrm] at hc1; omega) | (simp at hc1; done))
      all_goals
       try simp only [nrm] at hc1
       refine wp_skip ?_
       refine then_n (hK6 _ _ ?_); clear hK6 K6
       refine wp_seq_k ?_; intro K8 hK8
       refine wlit ?_
       refine wl_v (x_loadA (cs := [_, _, _, _, _, _, _, _, _, _, _, _, _, _, _, _, _]) Try.underlying69 rfl ts_69 (tmP rfl rfl) (rangeB hS.ok 2 rfl rfl)) ?_
       refine wl_v (x_move (tmS rfl rfl)) ?_
       refine wl_e rfl ?_; intro K hK
       refine ow_call Try.func51 rfl rfl (evs_cons (tmA rfl rfl) <| evs_cons (tmS rfl rfl) <| evs_nil) (hI _ _ _ (viewR hS.ok 1 rfl) hcap) ?_
       rintro e w ⟨rfl, hk⟩
       refine ⟨_, rfl, ?_⟩
       replace hS := hS.kept hk
       clear hk
       refine hK _ _ ?_; clear hK K
       refine wl_v (x_move (tmT rfl rfl)) ?_
       refine wl_v (x_ext (tmT rfl rfl) rfl) ?_
       refine wl_v (x_ext (tmT rfl rfl) rfl) ?_
       refine wl_v (x_ext (tmT rfl rfl) rfl) ?_
       refine wl_e rfl ?_; intro K hK
       refine ow_alloc hS tz_88 rfl ?_
       clear hS; intro g7_7 w hg7_7 hS
       refine hK _ _ ?_; clear hK K
       refine wl_e rfl ?_; intro K hK
       refine ow_storeA hS 0 rfl ts_88 (tmP rfl rfl) (tmA rfl rfl) rfl rfl rfl ?_
       clear hS; intro w hS
       refine hK _ _ ?_; clear hK K
       refine wl_v (x_assign (tmI rfl rfl)) ?_
       refine wl_v (x_assign (tmI rfl rfl)) ?_
       refine wl_nil ?_
       refine then_n (hK8 _ _ ?_); clear hK8 K8
       refine wp_seq_k ?_; intro K9 hK9
       refine wlit ?_
       refine wl_v (x_loadA (cs := [_, _, _, _, _, _, _, _, _, _, _, _, _, _, _, _, _]) Try.underlying69 rfl ts_69 (tmP rfl rfl) (rangeB hS.ok 3 rfl rfl)) ?_
       refine wl_e rfl ?_; intro K hK
       refine ow_call Try.func41 rfl rfl (evs_cons (tmA rfl rfl) <| evs_nil) (ring_next_c k u _) ?_
       rintro e w ⟨rfl, hk⟩
       refine ⟨_, rfl, ?_⟩
       replace hS := hS.kept hk
       clear hk
       refine hK _ _ ?_; clear hK K
       refine wl_v (x_move (tmS rfl rfl)) ?_
       refine wl_e rfl ?_; intro K hK
       refine ow_call Try.func51 rfl rfl (evs_cons (tmA rfl rfl) <| evs_cons (tmS rfl rfl) <| evs_nil) (hJ _ _ _ (viewR hS.ok 2 rfl) hcap) ?_
       rintro e w ⟨rfl, hk⟩
       refine ⟨_, rfl, ?_⟩
       replace hS := hS.kept hk
       clear hk
       refine hK _ _ ?_; clear hK K
       refine wl_v (x_move (tmT rfl rfl)) ?_
       refine wl_v (x_ext (tmT rfl rfl) rfl) ?_
       refine wl_v (x_ext (tmT rfl rfl) rfl) ?_
       refine wl_v (x_ext (tmT rfl rfl) rfl) ?_
       refine wl_e rfl ?_; intro K hK
       refine ow_alloc hS tz_88 rfl ?_
       clear hS; intro g8_8 w hg8_8 hS
       refine hK _ _ ?_; clear hK K
       refine wl_e rfl ?_; intro K hK
       refine ow_storeA hS 0 rfl ts_88 (tmP rfl rfl) (tmA rfl rfl) rfl rfl rfl ?_
       clear hS; intro w hS
       refine hK _ _ ?_; clear hK K
       refine wl_v (x_assign (tmI rfl rfl)) ?_
       refine wl_v (x_assign (tmI rfl rfl)) ?_
       refine wl_nil ?_
       refine then_n (hK9 _ _ ?_); clear hK9 K9
       refine wp_seq_k ?_; intro K10 hK10
       refine wlit ?_
       refine wl_v (x_loadA (cs := [_, _]) Try.underlying88 rfl ts_88 (tmP rfl rfl) (rangeB hS.ok 1 rfl rfl)) ?_
       refine wl_v (x_loadA (cs := [_, _]) Try.underlying88 rfl ts_88 (tmP rfl rfl) (rangeB hS.ok 5 rfl rfl)) ?_
       refine wl_v (x_Aeql (by kernel_rfl) (tmA rfl rfl) (tmA rfl rfl) (eqv_A Try.underlying88 (by kernel_rfl) (fe_cons rfl (pt_1 Try.underlying3 rfl rfl) (pt_1 Try.underlying3 rfl rfl) (eqv_i Try.underlying3) <| fe_cons rfl (pt_1 Try.underlying3 rfl rfl) (pt_1 Try.underlying3 rfl rfl) (eqv_i Try.underlying3) <| fe_nil))) ?_
       refine wl_v (x_move (tmB rfl rfl)) ?_
       refine gs_wls (tm (t := 78) rfl) (fun hg9_3 => ?_) (fun hg9_3 => ?_)
       · exfalso
         simp at hg9_3
       have hg9_3' := hg9_3; (try simp only [nrm] at hg9_3'); try (exfalso; first | with_reducible exact absurd hg9_3 Bool.false_ne_true | with_reducible exact absurd hg9_3.symm Bool.false_ne_true | omega | (simp at hg9_3; done))
       all_goals
        refine wl_gv (want_y rfl rfl rfl rfl (by rw [hg9_3]; rfl)) (x_move (tmI rfl rfl)) ?_
        refine wl_gv (want_y rfl rfl rfl rfl (by rw [hg9_3]; rfl)) (x_move (tmI rfl rfl)) ?_
        refine wl_gv (want_y rfl rfl rfl rfl (by rw [hg9_3]; rfl)) (x_eql (tmI rfl rfl) (tmI rfl rfl)) ?_
        refine wl_v (x_pickT (tmB rfl rfl) hg9_3 (tmB rfl rfl)) ?_
        refine wl_v (x_move (tmB rfl rfl)) ?_
        refine gs_wls (tm (t := 83) rfl) (fun hg9_8 => ?_) (fun hg9_8 => ?_)
        · exfalso
          simp at hg9_8
        have hg9_8' := hg9_8; (try simp only [nrm] at hg9_8'); try (exfalso; first | with_reducible exact absurd hg9_8 Bool.false_ne_true | with_reducible exact absurd hg9_8.symm Bool.false_ne_true | omega | (simp at hg9_8; done))
        all_goals
         refine wl_gv (want_y rfl rfl rfl rfl (by rw [hg9_8]; rfl)) (x_move (tmI rfl rfl)) ?_
         refine wl_gv (want_y rfl rfl rfl rfl (by rw [hg9_8]; rfl)) (x_eql (tmI rfl rfl) (ev_cN 0)) ?_
         refine wl_v (x_pickT (tmB rfl rfl) hg9_8 (tmB rfl rfl)) ?_
         refine wl_v (x_move (tmB rfl rfl)) ?_
         refine gs_wls (tm (t := 87) rfl) (fun hg9_12 => ?_) (fun hg9_12 => ?_)
         · exfalso
           simp at hg9_12
         have hg9_12' := hg9_12; (try simp only [nrm] at hg9_12'); try (exfalso; first | with_reducible exact absurd hg9_12 Bool.false_ne_true | with_reducible exact absurd hg9_12.symm Bool.false_ne_true | omega | (simp at hg9_12; done))
         all_goals
          refine wl_gv (want_y rfl rfl rfl rfl (by rw [hg9_12]; rfl)) (x_fa 16 Try.underlying66 rfl rfl ts_24 (tmP rfl rfl)) ?_
          first
           | refine wl_gv (want_y rfl rfl rfl rfl (by rw [hg9_12]; rfl)) (x_load Try.underlying24 rfl (tmP rfl rfl) (cellB hS.ok 6 rfl rfl)) ?_
           | refine wl_gv (want_y rfl rfl rfl rfl (by rw [hg9_12]; rfl)) (x_load Try.underlying24 rfl (tmP rfl rfl) (cellB hS.ok 6 rfl (getm (by omega)))) ?_
          refine wl_gv (want_y rfl rfl rfl rfl (by rw [hg9_12]; rfl)) (x_eql (tmI rfl rfl) (ev_cN 18446744073709551615)) ?_
          refine wl_gv (want_y rfl rfl rfl rfl (by rw [hg9_12]; rfl)) (x_move (tmB rfl rfl)) ?_
          refine gs_wl (tm (t := 91) rfl) (fun hg9_16 => ?_) (fun hg9_16 => ?_)
          · have hg9_16' := hg9_16; (try simp only [nrm] at hg9_16'); try (exfalso; first | with_reducible exact absurd hg9_16 Bool.false_ne_true | with_reducible exact absurd hg9_16.symm Bool.false_ne_true | omega | (simp at hg9_16; done))
            all_goals
             refine wl_s rfl (want_n rfl rfl rfl rfl (by rw [hg9_16]; rfl)) ?_
             refine wl_s rfl (want_n rfl rfl rfl rfl (by rw [hg9_16]; rfl)) ?_
             refine wl_s rfl (want_n rfl rfl rfl rfl (by rw [hg9_16]; rfl)) ?_
             refine wl_s rfl (want_n rfl rfl rfl rfl (by rw [hg9_16]; rfl)) ?_
             refine wl_s rfl (want_u rfl rfl rfl rfl) ?_
             refine wl_s rfl (want_u rfl rfl rfl rfl) ?_
             refine wl_s rfl (want_u rfl rfl rfl rfl) ?_
             refine wl_s rfl (want_n rfl rfl rfl rfl (by rw [hg9_16]; rfl)) ?_
             refine wl_s rfl (want_n rfl rfl rfl rfl (by rw [hg9_16]; rfl)) ?_
             refine wl_s rfl (want_u rfl rfl rfl rfl) ?_
             refine wl_s rfl (want_u rfl rfl rfl rfl) ?_
             refine wl_s rfl (want_n rfl rfl rfl rfl (by rw [hg9_16]; rfl)) ?_
             refine wl_gv (want_y rfl rfl rfl rfl (by rw [hg9_12]; rfl)) (x_pickT (tmB rfl rfl) hg9_16 ev_c) ?_
             refine wl_v (x_pickT (tmB rfl rfl) hg9_12 (tmB rfl rfl)) ?_
             refine wl_v (x_move (tmB rfl rfl)) ?_
             refine wl_g (want_y rfl rfl rfl rfl rfl) ?_; intro K hK
             refine ow_call Try.func49 rfl rfl (evs_nil) (law13_awake_c _) ?_
             rintro e w ⟨rfl, hk⟩
             refine ⟨_, rfl, ?_⟩
             replace hS := hS.kept hk
             clear hk
             refine hK _ _ ?_; clear hK K
             refine wl_v (x_pickT (tmB rfl rfl) rfl (tmB rfl rfl)) ?_
             refine wl_v (x_assign (tmB rfl rfl)) ?_
             refine wl_nil ?_
             refine then_n (hK10 _ _ ?_); clear hK10 K10
             refine wp_ret ?_
             refine ret1 rfl (.tmp rfl (show _ = Value.bool _ from rfl)) ?_
             exact ⟨rfl, hS.kp.below⟩
          have hg9_16' := hg9_16; (try simp only [nrm] at hg9_16'); try (exfalso; first | with_reducible exact absurd hg9_16 Bool.false_ne_true | with_reducible exact absurd hg9_16.symm Bool.false_ne_true | omega | (simp at hg9_16; done))
          all_goals
           obtain ⟨rfl, rfl, rfl, rfl⟩ := hq (by have h9 := hg9_16; simp at h9; omega)
           refine wl_gv (want_y rfl rfl rfl rfl (by rw [hg9_16]; rfl)) (x_loadA (cs := [_, _]) Try.underlying88 rfl ts_88 (tmP rfl rfl) (rangeB hS.ok 0 rfl rfl)) ?_
           refine wl_gv (want_y rfl rfl rfl rfl (by rw [hg9_16]; rfl)) (x_loadA (cs := [_, _]) Try.underlying88 rfl ts_88 (tmP rfl rfl) (rangeB hS.ok 5 rfl rfl)) ?_
           refine wl_gv (want_y rfl rfl rfl rfl (by rw [hg9_16]; rfl)) (x_Aeql (by kernel_rfl) (tmA rfl rfl) (tmA rfl rfl) (eqv_A Try.underlying88 (by kernel_rfl) (fe_cons rfl (pt_1 Try.underlying3 rfl rfl) (pt_1 Try.underlying3 rfl rfl) (eqv_i Try.underlying3) <| fe_cons rfl (pt_1 Try.underlying3 rfl rfl) (pt_1 Try.underlying3 rfl rfl) (eqv_i Try.underlying3) <| fe_nil))) ?_
           refine wl_gv (want_y rfl rfl rfl rfl (by rw [hg9_16]; rfl)) (x_move (tmB rfl rfl)) ?_
           refine gs_wls (tm (t := 95) rfl) (fun hg9_20 => ?_) (fun hg9_20 => ?_)
           · exfalso
             simp at hg9_20
           have hg9_20' := hg9_20; (try simp only [nrm] at hg9_20'); try (exfalso; first | with_reducible exact absurd hg9_20 Bool.false_ne_true | with_reducible exact absurd hg9_20.symm Bool.false_ne_true | omega | (simp at hg9_20; done))
           all_goals
            refine wl_gv (want_y rfl rfl rfl rfl (by rw [hg9_20]; rfl)) (x_move (tmI rfl rfl)) ?_
            refine wl_gv (want_y rfl rfl rfl rfl (by rw [hg9_20]; rfl)) (x_move (tmI rfl rfl)) ?_
            refine wl_gv (want_y rfl rfl rfl rfl (by rw [hg9_20]; rfl)) (x_eql (tmI rfl rfl) (tmI rfl rfl)) ?_
            refine wl_gv (want_y rfl rfl rfl rfl (by rw [hg9_16]; rfl)) (x_pickT (tmB rfl rfl) hg9_20 (tmB rfl rfl)) ?_
            refine wl_gv (want_y rfl rfl rfl rfl (by rw [hg9_16]; rfl)) (x_move (tmB rfl rfl)) ?_
            refine gs_wls (tm (t := 100) rfl) (fun hg9_25 => ?_) (fun hg9_25 => ?_)
            · exfalso
              simp at hg9_25
            have hg9_25' := hg9_25; (try simp only [nrm] at hg9_25'); try (exfalso; first | with_reducible exact absurd hg9_25 Bool.false_ne_true | with_reducible exact absurd hg9_25.symm Bool.false_ne_true | omega | (simp at hg9_25; done))
            all_goals
             refine wl_gv (want_y rfl rfl rfl rfl (by rw [hg9_25]; rfl)) (x_move (tmI rfl rfl)) ?_
             refine wl_gv (want_y rfl rfl rfl rfl (by rw [hg9_25]; rfl)) (x_eql (tmI rfl rfl) (ev_cN 0)) ?_
             refine wl_gv (want_y rfl rfl rfl rfl (by rw [hg9_16]; rfl)) (x_pickT (tmB rfl rfl) hg9_25 (tmB rfl rfl)) ?_
             refine wl_gv (want_y rfl rfl rfl rfl (by rw [hg9_12]; rfl)) (x_pickF (tmB rfl rfl) hg9_16 (tmB rfl rfl)) ?_
             refine wl_v (x_pickT (tmB rfl rfl) hg9_12 (tmB rfl rfl)) ?_
             refine wl_v (x_move (tmB rfl rfl)) ?_
             refine gs_wls (tm (t := 106) rfl) (fun hg9_31 => ?_) (fun hg9_31 => ?_)
             · exfalso
               simp at hg9_31
             have hg9_31' := hg9_31; (try simp only [nrm] at hg9_31'); try (exfalso; first | with_reducible exact absurd hg9_31 Bool.false_ne_true | with_reducible exact absurd hg9_31.symm Bool.false_ne_true | omega | (simp at hg9_31; done))
             all_goals
              refine wl_g (want_y rfl rfl rfl rfl (by rw [hg9_31]; rfl)) ?_; intro K hK
              refine ow_call Try.func49 rfl rfl (evs_nil) (law13_awake_c _) ?_
              rintro e w ⟨rfl, hk⟩
              refine ⟨_, rfl, ?_⟩
              replace hS := hS.kept hk
              clear hk
              refine hK _ _ ?_; clear hK K
              refine wl_v (x_pickT (tmB rfl rfl) hg9_31 (tmB rfl rfl)) ?_
              refine wl_v (x_assign (tmB rfl rfl)) ?_
              refine wl_nil ?_
              refine then_n (hK10 _ _ ?_); clear hK10 K10
              refine wp_ret ?_
              refine ret1 rfl (.tmp rfl (show _ = Value.bool _ from rfl)) ?_
              exact ⟨rfl, hS.kp.below⟩
  · have hRt := fun w => right13_g v s o w
    rw [decide_eq_false hr] at hRt
    refine ent (n := 109) Try.func9 rfl rfl ?_
    refine wp_seq_k ?_; intro K1 hK1
    refine wlit ?_
    refine wl_e rfl ?_; intro K hK
    refine ow_box hS (tmA rfl rfl) rfl ?_
    clear hS; intro g0_0 w hg0_0 hS
    refine hK _ _ ?_; clear hK K
    refine wl_e rfl ?_; intro K hK
    refine ow_box hS (tmA rfl rfl) rfl ?_
    clear hS; intro g0_1 w hg0_1 hS
    refine hK _ _ ?_; clear hK K
    refine wl_v (x_assign ev_c) ?_
    refine wl_nil ?_
    refine then_n (hK1 _ _ ?_); clear hK1 K1
    refine wp_seq_k ?_; intro K2 hK2
    refine wlit ?_
    refine wl_v (x_fa 0 Try.underlying66 rfl rfl ts_64 (tmP rfl rfl)) ?_
    refine wl_v (x_loadA (cs := [_, _, _, _, _, _, _, _, _, _, _, _, _, _, _, _]) Try.underlying64 rfl ts_64 (tmP rfl rfl) (rangeB hS.ok 1 rfl rfl)) ?_
    refine wl_v (x_fa 16 Try.underlying66 rfl rfl ts_24 (tmP rfl rfl)) ?_
    first
     | refine wl_v (x_load Try.underlying24 rfl (tmP rfl rfl) (cellB hS.ok 1 rfl rfl)) ?_
     | refine wl_v (x_load Try.underlying24 rfl (tmP rfl rfl) (cellB hS.ok 1 rfl (getm (by omega)))) ?_
    refine wl_e rfl ?_; intro K hK
    refine ow_call Try.func36 rfl rfl (evs_cons (tmA rfl rfl) <| evs_cons (tmI rfl rfl) <| evs_nil) (ring_new_c k u _) ?_
    rintro e w ⟨rfl, hk⟩
    refine ⟨_, rfl, ?_⟩
    replace hS := hS.kept hk
    clear hk
    refine hK _ _ ?_; clear hK K
    refine wl_e rfl ?_; intro K hK
    refine ow_alloc hS tz_69 rfl ?_
    clear hS; intro g1_5 w hg1_5 hS
    refine hK _ _ ?_; clear hK K
    refine wl_e rfl ?_; intro K hK
    refine ow_storeA hS 0 rfl ts_69 (tmP rfl rfl) (tmA rfl rfl) rfl rfl rfl ?_
    clear hS; intro w hS
    try replace hS := St.nm (M' := [.blk _ _ [_, _, _, _, _, _, _, _, _, _, _, _, _, _, _, _, _], .blk _ _ [_, _], .blk _ _ [_, _, _, _, _, _, _, _, _, _, _, _, _, _, _, _, _], _]) hS rfl
    refine hK _ _ ?_; clear hK K
    refine wl_nil ?_
    refine then_n (hK2 _ _ ?_); clear hK2 K2
    refine wp_seq_k ?_; intro K3 hK3
    refine wlit ?_
    refine wl_v (x_loadA (cs := [_, _, _, _, _, _, _, _, _, _, _, _, _, _, _, _, _]) Try.underlying69 rfl ts_69 (tmP rfl rfl) (rangeB hS.ok 0 rfl rfl)) ?_
    refine wl_v (x_loadA (cs := [_, _]) Try.underlying88 rfl ts_88 (tmP rfl rfl) (rangeB hS.ok 1 rfl rfl)) ?_
    refine wl_v (x_move (tmI rfl rfl)) ?_
    refine wl_e rfl ?_; intro K hK
    refine ow_call Try.func47 rfl rfl (evs_cons (tmA rfl rfl) <| evs_cons (tmA rfl rfl) <| evs_cons (tmI rfl rfl) <| evs_nil) (cid_make_bad k u v s o _ hr) ?_
    rintro e w ⟨rfl, hk⟩
    refine ⟨_, rfl, ?_⟩
    replace hS := hS.kept hk
    clear hk
    refine hK _ _ ?_; clear hK K
    refine wl_v (x_move (tmT rfl rfl)) ?_
    refine wl_v (x_ext (tmT rfl rfl) rfl) ?_
    refine wl_v (x_ext (tmT rfl rfl) rfl) ?_
    refine wl_v (x_assign (tmS rfl rfl)) ?_
    refine wl_v (x_assign (tmI rfl rfl)) ?_
    refine wl_nil ?_
    refine then_n (hK3 _ _ ?_); clear hK3 K3
    refine wp_seq_k ?_; intro K4 hK4
    refine wp_seq_k ?_; intro K5 hK5
    refine wlit ?_
    refine wl_v (x_fa 0 Try.underlying88 rfl rfl ts_3 (tmP rfl rfl)) ?_
    first
     | refine wl_v (x_load Try.underlying3 rfl (tmP rfl rfl) (cellB hS.ok 1 rfl rfl)) ?_
     | refine wl_v (x_load Try.underlying3 rfl (tmP rfl rfl) (cellB hS.ok 1 rfl (getm (by omega)))) ?_
    refine wl_v (x_fa 1 Try.underlying88 rfl rfl ts_3 (tmP rfl rfl)) ?_
    first
     | refine wl_v (x_load Try.underlying3 rfl (tmP rfl rfl) (cellB hS.ok 1 rfl rfl)) ?_
     | refine wl_v (x_load Try.underlying3 rfl (tmP rfl rfl) (cellB hS.ok 1 rfl (getm (by omega)))) ?_
    refine wl_v (x_move (tmI rfl rfl)) ?_
    refine wl_e rfl ?_; intro K hK
    refine ow_call Try.func48 rfl rfl (evs_cons (tmI rfl rfl) <| evs_cons (tmI rfl rfl) <| evs_cons (tmI rfl rfl) <| evs_nil) (hRt _) ?_
    rintro e w ⟨rfl, hk⟩
    refine ⟨_, rfl, ?_⟩
    replace hS := hS.kept hk
    clear hk
    refine hK _ _ ?_; clear hK K
    refine wl_v (x_not (tmB rfl rfl)) ?_
    refine wl_nil ?_
    refine then_n (hK5 _ _ ?_); clear hK5 K5
    refine cnds (tm rfl) (fun hc0 => ?_) (fun hc0 => ?_)
    · exfalso
      simp at hc0
    try (exfalso; first | with_reducible exact absurd hc0 Bool.false_ne_true | with_reducible exact absurd hc0.symm Bool.false_ne_true | (simp only [nrm] at hc0; omega) | (simp at hc0; done))
    all_goals
     try simp only [nrm] at hc0
     refine wp_seq_k ?_; intro K6 hK6
     refine wlit ?_
     refine wl_v (x_move (tmS rfl rfl)) ?_
     refine wl_v (x_len Try.underlying22 (tmS rfl rfl)) ?_
     refine wl_v (x_eql (tmI rfl rfl) (ev_cN 0)) ?_
     refine wl_v (x_move (tmB rfl rfl)) ?_
     refine gs_wls (tm (t := 38) rfl) (fun hg4_3 => ?_) (fun hg4_3 => ?_)
     · exfalso
       simp at hg4_3
     have hg4_3' := hg4_3; (try simp only [nrm] at hg4_3'); try (exfalso; first | with_reducible exact absurd hg4_3 Bool.false_ne_true | with_reducible exact absurd hg4_3.symm Bool.false_ne_true | omega | (simp at hg4_3; done))
     all_goals
      refine wl_gv (want_y rfl rfl rfl rfl (by rw [hg4_3]; rfl)) (x_move (tmI rfl rfl)) ?_
      refine wl_gv (want_y rfl rfl rfl rfl (by rw [hg4_3]; rfl)) (x_eql (tmI rfl rfl) (ev_cN 1)) ?_
      refine wl_v (x_pickT (tmB rfl rfl) hg4_3 (tmB rfl rfl)) ?_
      refine wl_v (x_move (tmB rfl rfl)) ?_
      refine gs_wls (tm (t := 42) rfl) (fun hg4_7 => ?_) (fun hg4_7 => ?_)
      · exfalso
        simp at hg4_7
      have hg4_7' := hg4_7; (try simp only [nrm] at hg4_7'); try (exfalso; first | with_reducible exact absurd hg4_7 Bool.false_ne_true | with_reducible exact absurd hg4_7.symm Bool.false_ne_true | omega | (simp at hg4_7; done))
      all_goals
       refine wl_g (want_y rfl rfl rfl rfl (by rw [hg4_7]; rfl)) ?_; intro K hK
       refine ow_call Try.func49 rfl rfl (evs_nil) (law13_awake_c _) ?_
       rintro e w ⟨rfl, hk⟩
       refine ⟨_, rfl, ?_⟩
       replace hS := hS.kept hk
       clear hk
       refine hK _ _ ?_; clear hK K
       refine wl_v (x_pickT (tmB rfl rfl) hg4_7 (tmB rfl rfl)) ?_
       refine wl_v (x_assign (tmB rfl rfl)) ?_
       refine wl_nil ?_
       refine then_n (hK6 _ _ ?_); clear hK6 K6
       refine wp_ret ?_
       refine then_r ?_
       refine ret1 rfl (.tmp rfl (show _ = Value.bool _ from rfl)) ?_
       exact ⟨rfl, hS.kp.below⟩
set_option maxRecDepth 100000 in
theorem walk (v0 v1 : Value) (a2 : Int) (w0 : World) {H : Type} {enc : TypeId × Value → H} {r : Reach} {b0 b1 : Nat} {d0 d1 : DataW H} {p0 p1 : List MemPlace}
    (hval0 : Value.okWide Try.prog w0 r b0 66 v0) (hd0 : DataW.Trod enc Try.prog w0 0 (fun _ => true) true 66 v0 d0 p0) (hlt0 : ∀ p ∈ p0, p.block < w0.heap.size)
    (hval1 : Value.okWide Try.prog w0 r b1 88 v1) (hd1 : DataW.Trod enc Try.prog w0 0 (fun _ => true) true 88 v1 d1 p1) (hlt1 : ∀ p ∈ p1, p.block < w0.heap.size)
    (w2 : 0 ≤ a2 ∧ a2 < 18446744073709551616) :
    Calls Try.prog 9 #[v0, v1, .int .u64 a2] w0 fun e w' => e = .returned (.bool true) ∧ Below w0.heap.size w0 w' := by
  obtain ⟨x, rfl, hx⟩ := RRing.open_a hval0 hd0 hlt0
  obtain ⟨y, rfl, hy⟩ := GPlace.open_a hval1 hd1 hlt1
  obtain ⟨n, rfl⟩ := Int.eq_ofNat_of_zero_le w2.1
  obtain ⟨k, u⟩ := x
  obtain ⟨v, s⟩ := y
  exact walkC k u v s n w0 hx.1 hx.2 (by omega)
end CidMakes
end Go.Proofs.Ytilgolflpdpfnaa
