
/- Proved: PolicyFits returns true for every input, and changes no memory that was there. Conditions: none. -/
import Derived.Test.YteocdobepgbnkaaPolicyG
import Derived.Test.YteocdobepgbnkaaArgs
import Derived.Test.YteocdobepgbnkaaO
namespace Go.Proofs.Yteocdobepgbnkaa
open Go.ChangeShapes Go.WideShapes Go.ChangeAt Go.RowKit
structure RCand where
  slot : Int
  backend : Int
  weight : Int
  load : Nat
def RCand.V (s : RCand) : List Value := [.int .i64 s.slot, .int .i64 s.backend, .int .i64 s.weight, .int .u32 (s.load : Int)]
theorem RCand.len (s : RCand) : s.V.length = 4 := rfl
def RCand.ok (w : World) (s : RCand) : Prop := (-9223372036854775808 ≤ s.slot ∧ s.slot ≤ 9223372036854775807) ∧ (-9223372036854775808 ≤ s.backend ∧ s.backend ≤ 9223372036854775807) ∧ (-9223372036854775808 ≤ s.weight ∧ s.weight ≤ 9223372036854775807) ∧ s.load < 4294967296
instance : Inhabited RCand := ⟨⟨0, 0, 0, 0⟩⟩
set_option maxRecDepth 100000 in
theorem RCand.open_t {H : Type} {enc : TypeId × Value → H} {w : World} {fuel : Nat} {cs : List Value} {x : DataW H × List MemPlace} (hf : DataW.trod enc Try.prog w 0 (fun _ => true) true fuel 40 cs = some x) (hlt : ∀ p ∈ x.2, p.block < w.heap.size) : ∃ s : RCand, cs = s.V ∧ s.ok w := by
  have hC : Try.prog.cellsOf 40 = 4 := by kernel_rfl
  have hl := (DataW.trod_struct Try.underlying40 hf).choose_spec.choose_spec.2.2.1
  rw [hC] at hl
  obtain ⟨y0, k0, t0, b0⟩ := field_t Try.underlying40 hf hlt 0 _ rfl
  have hC0 : Try.prog.cellsOf 3 = 1 := by kernel_rfl
  obtain ⟨s0, e0, o0⟩ := t_i64 Try.underlying3 t0 b0
  have d0 := split_drop cs 0 1 (hC0 ▸ e0)
  obtain ⟨y1, k1, t1, b1⟩ := field_t Try.underlying40 hf hlt 1 _ rfl
  have hC1 : Try.prog.cellsOf 3 = 1 := by kernel_rfl
  obtain ⟨s1, e1, o1⟩ := t_i64 Try.underlying3 t1 b1
  have d1 := split_drop cs 1 1 (hC1 ▸ e1)
  obtain ⟨y2, k2, t2, b2⟩ := field_t Try.underlying40 hf hlt 2 _ rfl
  have hC2 : Try.prog.cellsOf 3 = 1 := by kernel_rfl
  obtain ⟨s2, e2, o2⟩ := t_i64 Try.underlying3 t2 b2
  have d2 := split_drop cs 2 1 (hC2 ▸ e2)
  obtain ⟨y3, k3, t3, b3⟩ := field_t Try.underlying40 hf hlt 3 _ rfl
  have hC3 : Try.prog.cellsOf 31 = 1 := by kernel_rfl
  obtain ⟨s3, e3, o3⟩ := t_u32 Try.underlying31 t3 b3
  have d3 := split_drop cs 3 1 (hC3 ▸ e3)
  refine ⟨⟨s0, s1, s2, s3⟩, ?_, ⟨o0, o1, o2, o3⟩⟩
  have dn : cs.drop 4 = [] := List.drop_eq_nil_of_le (by omega)
  rw [← List.drop_zero (l := cs)]
  refine d0.trans ?_
  rw [show cs.drop (0 + 1) = _ from d1]
  rw [show cs.drop (1 + 1) = _ from d2]
  rw [show cs.drop (2 + 1) = _ from d3]
  rw [show cs.drop (3 + 1) = [] from dn]
  rfl
set_option maxRecDepth 100000 in
theorem RCand.open_a {H : Type} {enc : TypeId × Value → H} {w : World} {r : Reach} {b0 : Nat} {v : Value} {d : DataW H} {ps : List MemPlace} (hval : Value.okWide Try.prog w r b0 40 v) (hd : DataW.Trod enc Try.prog w 0 (fun _ => true) true 40 v d ps) (hlt : ∀ p ∈ ps, p.block < w.heap.size) : ∃ s : RCand, v = .agg s.V.toArray ∧ s.ok w := by
  obtain ⟨cs, rfl, _⟩ := okWide_struct Try.underlying40 hval
  obtain ⟨fuel, hf⟩ := hd
  obtain ⟨s, e, h⟩ := RCand.open_t hf hlt
  exact ⟨s, by rw [← e]; simp [Value.cells], h⟩
structure RAct where
  way : Int
  l : Sl RCand
  a : Nat
  b : Nat
def RAct.V (s : RAct) : List Value := [.int .i64 s.way, .slice s.l.a s.l.l.length s.l.c, .int .u32 (s.a : Int), .int .u32 (s.b : Int)]
theorem RAct.len (s : RAct) : s.V.length = 4 := rfl
def RAct.ok (w : World) (s : RAct) : Prop := (-9223372036854775808 ≤ s.way ∧ s.way ≤ 9223372036854775807) ∧ okS w RCand.V (fun r => r.ok w) s.l ∧ s.a < 4294967296 ∧ s.b < 4294967296
instance : Inhabited RAct := ⟨⟨0, default, 0, 0⟩⟩
set_option maxRecDepth 100000 in
theorem RAct.open_t {H : Type} {enc : TypeId × Value → H} {w : World} {fuel : Nat} {cs : List Value} {x : DataW H × List MemPlace} (hf : DataW.trod enc Try.prog w 0 (fun _ => true) true fuel 46 cs = some x) (hlt : ∀ p ∈ x.2, p.block < w.heap.size) : ∃ s : RAct, cs = s.V ∧ s.ok w := by
  have hC : Try.prog.cellsOf 46 = 4 := by kernel_rfl
  have hl := (DataW.trod_struct Try.underlying46 hf).choose_spec.choose_spec.2.2.1
  rw [hC] at hl
  obtain ⟨y0, k0, t0, b0⟩ := field_t Try.underlying46 hf hlt 0 _ rfl
  have hC0 : Try.prog.cellsOf 3 = 1 := by kernel_rfl
  obtain ⟨s0, e0, o0⟩ := t_i64 Try.underlying3 t0 b0
  have d0 := split_drop cs 0 1 (hC0 ▸ e0)
  obtain ⟨y1, k1, t1, b1⟩ := field_t Try.underlying46 hf hlt 1 _ rfl
  have hC1 : Try.prog.cellsOf 30 = 1 := by kernel_rfl
  obtain ⟨s1, e1, o1⟩ := t_sl (V := RCand.V) (ok := fun r => r.ok w) Try.underlying30 4 (by kernel_rfl) (by omega) RCand.open_t t1 b1
  have d1 := split_drop cs 1 1 (hC1 ▸ e1)
  obtain ⟨y2, k2, t2, b2⟩ := field_t Try.underlying46 hf hlt 2 _ rfl
  have hC2 : Try.prog.cellsOf 31 = 1 := by kernel_rfl
  obtain ⟨s2, e2, o2⟩ := t_u32 Try.underlying31 t2 b2
  have d2 := split_drop cs 2 1 (hC2 ▸ e2)
  obtain ⟨y3, k3, t3, b3⟩ := field_t Try.underlying46 hf hlt 3 _ rfl
  have hC3 : Try.prog.cellsOf 31 = 1 := by kernel_rfl
  obtain ⟨s3, e3, o3⟩ := t_u32 Try.underlying31 t3 b3
  have d3 := split_drop cs 3 1 (hC3 ▸ e3)
  refine ⟨⟨s0, s1, s2, s3⟩, ?_, ⟨o0, o1, o2, o3⟩⟩
  have dn : cs.drop 4 = [] := List.drop_eq_nil_of_le (by omega)
  rw [← List.drop_zero (l := cs)]
  refine d0.trans ?_
  rw [show cs.drop (0 + 1) = _ from d1]
  rw [show cs.drop (1 + 1) = _ from d2]
  rw [show cs.drop (2 + 1) = _ from d3]
  rw [show cs.drop (3 + 1) = [] from dn]
  rfl
set_option maxRecDepth 100000 in
theorem RAct.open_a {H : Type} {enc : TypeId × Value → H} {w : World} {r : Reach} {b0 : Nat} {v : Value} {d : DataW H} {ps : List MemPlace} (hval : Value.okWide Try.prog w r b0 46 v) (hd : DataW.Trod enc Try.prog w 0 (fun _ => true) true 46 v d ps) (hlt : ∀ p ∈ ps, p.block < w.heap.size) : ∃ s : RAct, v = .agg s.V.toArray ∧ s.ok w := by
  obtain ⟨cs, rfl, _⟩ := okWide_struct Try.underlying46 hval
  obtain ⟨fuel, hf⟩ := hd
  obtain ⟨s, e, h⟩ := RAct.open_t hf hlt
  exact ⟨s, by rw [← e]; simp [Value.cells], h⟩
def RCand.cn (r : RCand) : Cn := ⟨r.slot, r.backend, r.weight, (r.load : Int)⟩
theorem RCand.cn_V (r : RCand) : cnV r.cn = r.V := rfl
theorem flat_cn (l : List RCand) : flat RCand.V l = flat cnV (l.map RCand.cn) := by
  unfold flat
  rw [List.map_map]
  rfl
namespace PolicyFits
open PolicyF
/-- What the law's loop has found. -/
def FoundI (l : List Cn) (k : Nat) (x : Cn) (z : Int) : Prop := (z = -1 ∧ ¬ InL l k x) ∨ ∃ i : Nat, z = (i : Int) ∧ i < k ∧ l.getD i default = x
theorem found_iff {l : List Cn} {k : Nat} {x : Cn} {z : Int} (h : FoundI l k x z) : 0 ≤ z ↔ InL l k x := by
  rcases h with ⟨rfl, h⟩ | ⟨i, rfl, hi, h⟩
  · exact ⟨fun h => by omega, fun g => absurd g h⟩
  · exact ⟨fun _ => ⟨i, hi, h⟩, fun _ => by omega⟩
theorem found_step {l : List Cn} {k : Nat} {x : Cn} {z : Int} (h : FoundI l k x z) (hne : l.getD k default ≠ x) : FoundI l (k + 1) x z := by
  rcases h with ⟨rfl, h⟩ | ⟨i, rfl, hi, h⟩
  · refine .inl ⟨rfl, ?_⟩
    rintro ⟨i, hi, e⟩
    by_cases hik : i = k
    · subst hik; exact hne e
    · exact h ⟨i, by omega, e⟩
  · exact .inr ⟨i, rfl, by omega, h⟩
theorem pick_fits {way : Int} {l : List Cn} {n a b : Nat} {x : Cn} {z y : Int} (hA : Apart l n) (hz : FoundI l n x z) (hp : PickI way l n a b y) (hw : way = 3 ∨ way = 4) : FitsP way l n a b x ↔ 0 ≤ z ∧ y = z := by
  have key : ∀ i, i < n → l.getD i default = x → z = (i : Int) := by
    intro i hi he
    rcases hz with ⟨_, h⟩ | ⟨j, rfl, hj, h⟩
    · exact absurd ⟨i, hi, he⟩ h
    · have hb : (l.getD i default).backend = (l.getD j default).backend := by rw [he, h]
      rcases Nat.lt_trichotomy i j with h1 | h1 | h1
      · exact absurd hb (hA i j h1 hj)
      · rw [h1]
      · exact absurd hb.symm (hA j i h1 hi)
  constructor
  · intro h
    rcases hp with ⟨h0, _⟩ | ⟨i, rfl, hi, hc⟩
    · rcases h with ⟨h, _⟩ | ⟨h, _⟩ | ⟨_, h, _⟩ | ⟨_, h, _⟩ <;> omega
    · have he : l.getD i default = x := by
        rcases h with ⟨h, _⟩ | ⟨h, _⟩ | ⟨h, _, e⟩ | ⟨h, _, e⟩
        · omega
        · omega
        · rcases hc with ⟨_, g⟩ | ⟨g, _⟩
          · rw [← g]; exact e
          · omega
        · rcases hc with ⟨g, _⟩ | ⟨_, g⟩
          · omega
          · rw [← g]; exact e
      have := key i hi he
      exact ⟨by omega, this.symm⟩
  · rintro ⟨h0, rfl⟩
    rcases hp with ⟨_, h1⟩ | ⟨i, rfl, hi, hc⟩
    · omega
    · have he : l.getD i default = x := by
        rcases hz with ⟨h1, _⟩ | ⟨j, h1, hj, h⟩
        · omega
        · obtain rfl : i = j := by omega
          exact h
      rcases hc with ⟨h3, g⟩ | ⟨h4, g⟩
      · exact .inr (.inr (.inl ⟨h3, by omega, by rw [g]; exact he⟩))
      · exact .inr (.inr (.inr ⟨h4, by omega, by rw [g]; exact he⟩))
set_option maxRecDepth 100000 in
set_option maxHeartbeats 4000000 in
theorem walkC (way : Int) (A : Option Addr) (n c : Nat) (l : List Cn) (a b : Nat) (j : Int) (x0 : Cn) (w0 : World) (hv : View w0 w0.heap.size A (flat cnV l)) (hl : l.length = n) (hn : n ≤ 9223372036854775807) (ha : a < 4294967296) (hb : b < 4294967296) :
    Calls Try.prog 4 #[.agg #[.int .i64 way, .slice A n c, .int .u32 (a : Int), .int .u32 (b : Int)], .int .i64 j, .agg (cnV x0).toArray] w0 fun e w' => e = .returned (.bool true) ∧ Below w0.heap.size w0 w' := by
  have hS := (St.sv w0).vcons rfl hv
  have hfl := flat_length (enc := cnV) (l := l) cnV_len
  refine ent (n := 104) Try.func4 rfl rfl ?_
  refine wp_seq_k ?_; intro K1 hK1
  refine wlit ?_
  refine wl_e rfl ?_; intro K hK
  refine ow_box hS (tmA rfl rfl) rfl ?_
  clear hS; intro g0_0 w hg0_0 hS
  refine hK _ _ ?_; clear hK K
  refine wl_e rfl ?_; intro K hK
  refine ow_box hS (tmA rfl rfl) rfl ?_
  clear hS; intro g0_1 w hg0_1 hS
  refine hK _ _ ?_; clear hK K
  refine wl_v (x_assign ev_c) ?_
  refine wl_nil ?_
  refine then_n (hK1 _ _ ?_); clear hK1 K1
  refine wp_seq_k ?_; intro K2 hK2
  refine wp_seq_k ?_; intro K3 hK3
  refine wlit ?_
  refine wl_v (x_fa 1 Try.underlying46 rfl rfl ts_30 (tmP rfl rfl)) ?_
  first
   | refine wl_v (x_load Try.underlying30 rfl (tmP rfl rfl) (cellB hS.ok 1 rfl rfl)) ?_
   | refine wl_v (x_load Try.underlying30 rfl (tmP rfl rfl) (cellB hS.ok 1 rfl (getm (by omega)))) ?_
  refine wl_e rfl ?_; intro K hK
  refine ow_call Try.func12 rfl rfl (evs_cons (tmS rfl rfl) <| evs_nil) (right21_c n A c l _ (viewV hS.ok 2 rfl) hl hn) ?_
  rintro e w ⟨b1, rfl, hb1, hk⟩
  refine ⟨_, rfl, ?_⟩
  replace hS := hS.kept hk
  clear hk
  refine hK _ _ ?_; clear hK K
  refine wl_v (x_not (tmB rfl rfl)) ?_
  refine wl_nil ?_
  refine then_n (hK3 _ _ ?_); clear hK3 K3
  refine cnd (tm rfl) (fun hc0 => ?_) (fun hc0 => ?_)
  · try (exfalso; first | with_reducible exact absurd hc0 Bool.false_ne_true | with_reducible exact absurd hc0.symm Bool.false_ne_true | (simp only [nrm] at hc0; omega) | (simp at hc0; done))
    all_goals
     try simp only [nrm] at hc0
     refine wp_seq_k ?_; intro K4 hK4
     refine wlit ?_
     refine wl_e rfl ?_; intro K hK
     refine ow_call Try.func13 rfl rfl (evs_nil) (law21_awake_c _) ?_
     rintro e w ⟨rfl, hk⟩
     refine ⟨_, rfl, ?_⟩
     replace hS := hS.kept hk
     clear hk
     refine hK _ _ ?_; clear hK K
     refine wl_v (x_assign (tmB rfl rfl)) ?_
     refine wl_nil ?_
     refine then_n (hK4 _ _ ?_); clear hK4 K4
     refine wp_ret ?_
     refine then_r ?_
     refine ret1 rfl (.tmp rfl (show _ = Value.bool _ from rfl)) ?_
     exact ⟨rfl, hS.kp.below⟩
  try (exfalso; first | with_reducible exact absurd hc0 Bool.false_ne_true | with_reducible exact absurd hc0.symm Bool.false_ne_true | (simp only [nrm] at hc0; omega) | (simp at hc0; done))
  all_goals
   try simp only [nrm] at hc0
   obtain ⟨hn30, hR, hA⟩ := hb1 (by simpa using hc0)
   refine wp_skip ?_
   refine then_n (hK2 _ _ ?_); clear hK2 K2
   refine wp_seq_k ?_; intro K5 hK5
   refine wlit ?_
   refine wl_v (x_loadA (cs := [_, _, _, _]) Try.underlying40 rfl ts_40 (tmP rfl rfl) (rangeB hS.ok 0 rfl rfl)) ?_
   refine wl_e rfl ?_; intro K hK
   refine ow_alloc hS tz_40 rfl ?_
   clear hS; intro g3_1 w hg3_1 hS
   refine hK _ _ ?_; clear hK K
   refine wl_e rfl ?_; intro K hK
   refine ow_storeA hS 0 rfl ts_40 (tmP rfl rfl) (tmA rfl rfl) rfl rfl rfl ?_
   clear hS; intro w hS
   try replace hS := St.nm (M' := [.blk _ _ [_, _, _, _], .blk _ _ [_, _, _, _], .blk _ _ [_, _, _, _], .vw _ _]) hS rfl
   refine hK _ _ ?_; clear hK K
   refine wl_nil ?_
   refine then_n (hK5 _ _ ?_); clear hK5 K5
   refine wp_seq_k ?_; intro K6 hK6
   refine wp_seq_k ?_; intro K7 hK7
   refine wlit ?_
   refine wl_v (x_move (tmI rfl rfl)) ?_
   refine wl_v (x_geq (tmI rfl rfl) (ev_cN 0)) ?_
   refine wl_v (x_move (tmB rfl rfl)) ?_
   refine gs_wl (tm (t := 21) rfl) (fun hg4_2 => ?_) (fun hg4_2 => ?_)
   · have hg4_2' := hg4_2; (try simp only [nrm] at hg4_2'); try (exfalso; first | with_reducible exact absurd hg4_2 Bool.false_ne_true | with_reducible exact absurd hg4_2.symm Bool.false_ne_true | omega | (simp at hg4_2; done))
     all_goals
      obtain ⟨k, rfl⟩ := Int.eq_ofNat_of_zero_le (a := j) (by simpa using hg4_2)
      refine wl_gv (want_y rfl rfl rfl rfl (by rw [hg4_2]; rfl)) (x_move (tmI rfl rfl)) ?_
      refine wl_gv (want_y rfl rfl rfl rfl (by rw [hg4_2]; rfl)) (x_fa 1 Try.underlying46 rfl rfl ts_30 (tmP rfl rfl)) ?_
      first
       | refine wl_gv (want_y rfl rfl rfl rfl (by rw [hg4_2]; rfl)) (x_load Try.underlying30 rfl (tmP rfl rfl) (cellB hS.ok 2 rfl rfl)) ?_
       | refine wl_gv (want_y rfl rfl rfl rfl (by rw [hg4_2]; rfl)) (x_load Try.underlying30 rfl (tmP rfl rfl) (cellB hS.ok 2 rfl (getm (by omega)))) ?_
      refine wl_gv (want_y rfl rfl rfl rfl (by rw [hg4_2]; rfl)) (x_len Try.underlying30 (tmS rfl rfl)) ?_
      refine wl_gv (want_y rfl rfl rfl rfl (by rw [hg4_2]; rfl)) (x_lss (tmI rfl rfl) (tmI rfl rfl)) ?_
      refine wl_v (x_pickT (tmB rfl rfl) hg4_2 (tmB rfl rfl)) ?_
      refine wl_nil ?_
      refine then_n (hK7 _ _ ?_); clear hK7 K7
      refine cutc [28, 29, 30, 31, 32] (fun g w => ∃ (x : Cn), St [] w0 [.blk g3_1 40 (cnV x), .blk g0_0 46 [.int .i64 way, .slice A n c, .int .u32 (a : Int), .int .u32 (b : Int)], .vw A (flat cnV l)] w) ?_ ?_
      · skip
        refine cnd (tm rfl) (fun hc1 => ?_) (fun hc1 => ?_)
        · try (exfalso; first | with_reducible exact absurd hc1 Bool.false_ne_true | with_reducible exact absurd hc1.symm Bool.false_ne_true | (simp only [nrm] at hc1; omega) | (simp at hc1; done))
          all_goals
           try simp only [nrm] at hc1
           obtain ⟨b4, o4, rfl⟩ := view_some hv (by rw [hfl]; omega)
           refine wlit ?_
           refine wl_v (x_fa 1 Try.underlying46 rfl rfl ts_30 (tmP rfl rfl)) ?_
           first
            | refine wl_v (x_load Try.underlying30 rfl (tmP rfl rfl) (cellB hS.ok 2 rfl rfl)) ?_
            | refine wl_v (x_load Try.underlying30 rfl (tmP rfl rfl) (cellB hS.ok 2 rfl (getm (by omega)))) ?_
           refine wl_v (x_move (tmI rfl rfl)) ?_
           refine wl_v (x_ixs Try.underlying30 ts_40 (tmS rfl rfl) (tmI rfl rfl) (by omega)) ?_
           refine wl_v (x_loadA Try.underlying40 rfl (by exact ts_40) (tmP rfl rfl) (rangeVs hS.ok 3 rfl (fun _ => rfl) (by omega))) ?_
           refine wl_e rfl ?_; intro K hK
           refine ow_storeA hS 0 rfl ts_40 (tmP rfl rfl) (tmA rfl rfl) rfl rfl rfl ?_
           clear hS; intro w hS
           try replace hS := St.nm (M' := [.blk _ _ [_, _, _, _], .blk _ _ [_, _, _, _], .blk _ _ [_, _, _, _], .vw _ _]) hS rfl
           refine hK _ _ ?_; clear hK K
           refine wl_nil ?_
           exact then_n ⟨_, rfl, (by repeat (first | exact agree_self | exact agree_refl | refine agree_upd rfl ?_ | refine agree_mix rfl ?_)), _, (hS.pick [0, 2, 3] rfl rfl)⟩
        try (exfalso; first | with_reducible exact absurd hc1 Bool.false_ne_true | with_reducible exact absurd hc1.symm Bool.false_ne_true | (simp only [nrm] at hc1; omega) | (simp at hc1; done))
        all_goals
         try simp only [nrm] at hc1
         refine wp_skip ?_
         exact then_n ⟨_, rfl, (by repeat (first | exact agree_self | exact agree_refl | refine agree_upd rfl ?_ | refine agree_mix rfl ?_)), _, (hS.pick [0, 2, 3] rfl rfl)⟩
      · clear hS; intro g w hI
        obtain ⟨x, hS⟩ := hI
        refine then_n (hK6 _ _ ?_); clear hK6 K6
        refine wp_seq_k ?_; intro K9 hK9
        refine wlit ?_
        refine wl_v (x_assign ev_c) ?_
        refine wl_nil ?_
        refine then_n (hK9 _ _ ?_); clear hK9 K9
        refine wp_seq_k ?_; intro K10 hK10
        refine wp_seq_k ?_; intro K11 hK11
        refine wlit ?_
        refine wl_v (x_assign (ev_cN 0)) ?_
        refine wl_nil ?_
        refine then_n (hK11 _ _ ?_); clear hK11 K11
        refine wp_block ?_
        refine lp [8, 9, 33, 34, 35, 36, 37, 38, 39, 40, 41, 42, 43, 44, 45, 46, 47] (fun mz g w => ∃ (k : Nat), ∃ (z : Int), mz = n - k ∧ g 9 = .int .i64 (k : Int) ∧ g 8 = .int .i64 z ∧ St [] w0 [.blk g3_1 40 (cnV x), .blk g0_0 46 [.int .i64 way, .slice A n c, .int .u32 (a : Int), .int .u32 (b : Int)], .vw A (flat cnV l)] w ∧ (k ≤ n) ∧ (FoundI l k x z)) ?_ ?_
        · exact ⟨_, 0, -1, rfl, (by first | rfl | go_num | exact congrArg (Value.int _) (by first | omega | (simp; done) | (simp; omega))), (by first | rfl | go_num | exact congrArg (Value.int _) (by first | omega | (simp; done) | (simp; omega))), hS, (by omega), (by first | exact hz1 | exact .inl ⟨rfl, by rintro ⟨i, hi, _⟩; omega⟩)⟩
        · clear hS; intro mz g w hI
          obtain ⟨k, z, rfl, hs9, hs8, hS, hk, hz⟩ := hI
          refine fr_know (d := 9) hs9 ?_; clear hs9
          refine fr_know (d := 8) hs8 ?_; clear hs8
          refine wp_seq_k ?_; intro K12 hK12
          refine wp_seq_k ?_; intro K13 hK13
          refine wlit ?_
          refine wl_v (x_move (tmI rfl rfl)) ?_
          refine wl_v (x_fa 1 Try.underlying46 rfl rfl ts_30 (tmP rfl rfl)) ?_
          first
           | refine wl_v (x_load Try.underlying30 rfl (tmP rfl rfl) (cellB hS.ok 1 rfl rfl)) ?_
           | refine wl_v (x_load Try.underlying30 rfl (tmP rfl rfl) (cellB hS.ok 1 rfl (getm (by omega)))) ?_
          refine wl_v (x_len Try.underlying30 (tmS rfl rfl)) ?_
          refine wl_v (x_lss (tmI rfl rfl) (tmI rfl rfl)) ?_
          refine wl_nil ?_
          refine then_n (hK13 _ _ ?_); clear hK13 K13
          refine cnd (tm rfl) (fun hc2 => ?_) (fun hc2 => ?_)
          · try (exfalso; first | with_reducible exact absurd hc2 Bool.false_ne_true | with_reducible exact absurd hc2.symm Bool.false_ne_true | (simp only [nrm] at hc2; omega) | (simp at hc2; done))
            all_goals
             try simp only [nrm] at hc2
             obtain ⟨b4, o4, rfl⟩ := view_some hv (by rw [hfl]; omega)
             refine wp_skip ?_
             refine then_n (hK12 _ _ ?_); clear hK12 K12
             refine wp_seq_k ?_; intro K14 hK14
             refine wp_block ?_
             refine wp_seq_k ?_; intro K15 hK15
             refine rg_startk 0 hS mixed_ ?_
             clear hS; intro w hS
             refine rg_take 0 rfl rfl (by kernel_rfl) (by kernel_rfl) (by kernel_rfl) (want_0) (fun w hok => x_fa 1 Try.underlying46 rfl rfl ts_30 (tmP rfl rfl)) ?_
             first
              | refine rg_take 1 rfl rfl (by kernel_rfl) (by kernel_rfl) (by kernel_rfl) (want_0) (fun w hok => x_load Try.underlying30 rfl (tmP rfl rfl) (cellB hok 1 rfl rfl)) ?_
              | refine rg_take 1 rfl rfl (by kernel_rfl) (by kernel_rfl) (by kernel_rfl) (want_0) (fun w hok => x_load Try.underlying30 rfl (tmP rfl rfl) (cellB hok 1 rfl (getm (by omega)))) ?_
             refine rg_take 2 rfl rfl (by kernel_rfl) (by kernel_rfl) (by kernel_rfl) (want_0) (fun w hok => x_move (tmI rfl rfl)) ?_
             refine rg_take 3 rfl rfl (by kernel_rfl) (by kernel_rfl) (by kernel_rfl) (want_0) (fun w hok => x_ixs Try.underlying30 ts_40 (tmS rfl rfl) (tmI rfl rfl) (by omega)) ?_
             refine rg_take 4 rfl rfl (by kernel_rfl) (by kernel_rfl) (by kernel_rfl) (want_0) (fun w hok => x_loadA Try.underlying40 rfl (by exact ts_40) (tmP rfl rfl) (rangeVs hok 2 rfl (fun _ => rfl) (by omega))) ?_
             refine rg_take 5 rfl rfl (by kernel_rfl) (by kernel_rfl) (by kernel_rfl) (want_0) (fun w hok => x_loadA (cs := [_, _, _, _]) Try.underlying40 rfl ts_40 (tmP rfl rfl) (rangeB hok 0 rfl rfl)) ?_
             refine rg_take 6 rfl rfl (by kernel_rfl) (by kernel_rfl) (by kernel_rfl) (want_0) (fun w hok => x_Aeql (by kernel_rfl) (tmA rfl rfl) (tmA rfl rfl) (eqv_A Try.underlying40 (by kernel_rfl) (fe_cons rfl (pt_1 Try.underlying3 rfl rfl) (pt_1 Try.underlying3 rfl rfl) (eqv_i Try.underlying3) <| fe_cons rfl (pt_1 Try.underlying3 rfl rfl) (pt_1 Try.underlying3 rfl rfl) (eqv_i Try.underlying3) <| fe_cons rfl (pt_1 Try.underlying3 rfl rfl) (pt_1 Try.underlying3 rfl rfl) (eqv_i Try.underlying3) <| fe_cons rfl (pt_1 Try.underlying31 rfl rfl) (pt_1 Try.underlying31 rfl rfl) (eqv_i Try.underlying31) <| fe_nil))) ?_
             refine rg_done (oks_drop hS 0 rfl) (by kernel_rfl) ?_
             refine then_n (hK15 _ _ ?_); clear hK15 K15
             refine cnd (tm rfl) (fun hc3 => ?_) (fun hc3 => ?_)
             · try (exfalso; first | with_reducible exact absurd hc3 Bool.false_ne_true | with_reducible exact absurd hc3.symm Bool.false_ne_true | (simp only [nrm] at hc3; omega) | (simp at hc3; done))
               all_goals
                try simp only [nrm] at hc3
                have hz1 : FoundI l (k + 1) x (k : Int) := .inr ⟨k, rfl, by omega, (cn_iff _ _).1 hc3⟩
                refine wlit ?_
                refine wl_v (x_move (tmI rfl rfl)) ?_
                refine wl_v (x_assign (tmI rfl rfl)) ?_
                refine wl_nil ?_
                refine inb_n ?_
                refine then_n (hK14 _ _ ?_); clear hK14 K14
                refine wlit ?_
                refine wl_v (x_move (tmI rfl rfl)) ?_
                first
                 | refine wl_v (x_addN (tmI rfl rfl) (ev_cN 1) (fit_i64 (by omega))) ?_
                 | refine wl_v (x_addI (tmI rfl rfl) (ev_cN 1) (IntWalk.i64_in _ (by omega))) ?_
                 | refine wl_v (x_add (tmI rfl rfl) (ev_cN 1)) ?_
                refine wl_v (x_assign (tmI rfl rfl)) ?_
                refine wl_nil ?_
                first
                 | exact then_n ⟨_, _, rfl, (by show _ < _; omega), (by repeat (first | exact agree_self | exact agree_refl | refine agree_upd rfl ?_ | refine agree_mix rfl ?_)), k + 1, _, rfl, (by first | rfl | go_num | exact congrArg (Value.int _) (by first | omega | (simp; done) | (simp; omega))), (by first | rfl | go_num | exact congrArg (Value.int _) (by first | omega | (simp; done) | (simp; omega))), hS, (by omega), (by first | exact hz1 | exact .inl ⟨rfl, by rintro ⟨i, hi, _⟩; omega⟩)⟩
                 | exact then_n ⟨_, _, rfl, (by show _ < _; omega), (by repeat (first | exact agree_self | exact agree_refl | refine agree_upd rfl ?_ | refine agree_mix rfl ?_)), k + 1, _, rfl, (by first | rfl | go_num | exact congrArg (Value.int _) (by first | omega | (simp; done) | (simp; omega))), (by first | rfl | go_num | exact congrArg (Value.int _) (by first | omega | (simp; done) | (simp; omega))), hS, (by omega), (by first | exact hz1 | exact .inl ⟨rfl, by rintro ⟨i, hi, _⟩; omega⟩)⟩
             try (exfalso; first | with_reducible exact absurd hc3 Bool.false_ne_true | with_reducible exact absurd hc3.symm Bool.false_ne_true | (simp only [nrm] at hc3; omega) | (simp at hc3; done))
             all_goals
              try simp only [nrm] at hc3
              have hz1 : FoundI l (k + 1) x z := found_step hz (fun h => by
                rw [(cn_iff _ _).2 h] at hc3
                cases hc3)
              refine wp_skip ?_
              refine inb_n ?_
              refine then_n (hK14 _ _ ?_); clear hK14 K14
              refine wlit ?_
              refine wl_v (x_move (tmI rfl rfl)) ?_
              first
               | refine wl_v (x_addN (tmI rfl rfl) (ev_cN 1) (fit_i64 (by omega))) ?_
               | refine wl_v (x_addI (tmI rfl rfl) (ev_cN 1) (IntWalk.i64_in _ (by omega))) ?_
               | refine wl_v (x_add (tmI rfl rfl) (ev_cN 1)) ?_
              refine wl_v (x_assign (tmI rfl rfl)) ?_
              refine wl_nil ?_
              first
               | exact then_n ⟨_, _, rfl, (by show _ < _; omega), (by repeat (first | exact agree_self | exact agree_refl | refine agree_upd rfl ?_ | refine agree_mix rfl ?_)), k + 1, _, rfl, (by first | rfl | go_num | exact congrArg (Value.int _) (by first | omega | (simp; done) | (simp; omega))), (by first | rfl | go_num | exact congrArg (Value.int _) (by first | omega | (simp; done) | (simp; omega))), hS, (by omega), (by first | exact hz1 | exact .inl ⟨rfl, by rintro ⟨i, hi, _⟩; omega⟩)⟩
               | exact then_n ⟨_, _, rfl, (by show _ < _; omega), (by repeat (first | exact agree_self | exact agree_refl | refine agree_upd rfl ?_ | refine agree_mix rfl ?_)), k + 1, _, rfl, (by first | rfl | go_num | exact congrArg (Value.int _) (by first | omega | (simp; done) | (simp; omega))), (by first | rfl | go_num | exact congrArg (Value.int _) (by first | omega | (simp; done) | (simp; omega))), hS, (by omega), (by first | exact hz1 | exact .inl ⟨rfl, by rintro ⟨i, hi, _⟩; omega⟩)⟩
          try (exfalso; first | with_reducible exact absurd hc2 Bool.false_ne_true | with_reducible exact absurd hc2.symm Bool.false_ne_true | (simp only [nrm] at hc2; omega) | (simp at hc2; done))
          all_goals
           try simp only [nrm] at hc2
           refine wp_exit ?_
           refine then_x ?_; clear hK12 K12
           refine then_x ?_
           refine inb_x ?_
           refine then_n (hK10 _ _ ?_); clear hK10 K10
           refine wp_seq_k ?_; intro K16 hK16
           obtain rfl : k = n := by omega
           have hzi := found_iff hz
           refine wlit ?_
           refine wl_v (x_move (tmI rfl rfl)) ?_
           refine wl_v (x_geq (tmI rfl rfl) (ev_cN 0)) ?_
           refine wl_v (x_assign (tmB rfl rfl)) ?_
           refine wl_nil ?_
           refine then_n (hK16 _ _ ?_); clear hK16 K16
           refine wp_seq_k ?_; intro K17 hK17
           refine wp_seq_k ?_; intro K18 hK18
           refine wlit ?_
           refine wl_v (x_fa 0 Try.underlying46 rfl rfl ts_3 (tmP rfl rfl)) ?_
           first
            | refine wl_v (x_load Try.underlying3 rfl (tmP rfl rfl) (cellB hS.ok 1 rfl rfl)) ?_
            | refine wl_v (x_load Try.underlying3 rfl (tmP rfl rfl) (cellB hS.ok 1 rfl (getm (by omega)))) ?_
           refine wl_nil ?_
           refine then_n (hK18 _ _ ?_); clear hK18 K18
           refine wp_block ?_
           refine wp_seq_k ?_; intro K19 hK19
           refine wlit ?_
           refine wl_v (x_eql (tmI rfl rfl) (ev_cN 1)) ?_
           refine wl_v (x_assign (tmB rfl rfl)) ?_
           refine wl_nil ?_
           refine then_n (hK19 _ _ ?_); clear hK19 K19
           refine cutc [10, 11, 12, 54, 55, 56, 57, 58, 59, 60, 61, 62, 63, 64, 65, 66, 67, 68, 69, 70, 71, 72, 73, 74, 75, 76, 77, 78, 79, 80, 81, 82, 83] (fun g w => ∃ (W : Bool), g 10 = .bool W ∧ St [] w0 [.blk g3_1 40 (cnV x), .blk g0_0 46 [.int .i64 way, .slice A k c, .int .u32 (a : Int), .int .u32 (b : Int)], .vw A (flat cnV l)] w ∧ (W = true ↔ FitsP way l k a b x)) ?_ ?_
           · skip
             refine cnd (tm rfl) (fun hc4 => ?_) (fun hc4 => ?_)
             · try (exfalso; first | with_reducible exact absurd hc4 Bool.false_ne_true | with_reducible exact absurd hc4.symm Bool.false_ne_true | (simp only [nrm] at hc4; omega) | (simp at hc4; done))
               all_goals
                try simp only [nrm] at hc4
                refine wp_skip ?_
                exact then_n ⟨_, rfl, (by repeat (first | exact agree_self | exact agree_refl | refine agree_upd rfl ?_ | refine agree_mix rfl ?_)), _, (by first | rfl | go_num | exact congrArg (Value.int _) (by first | omega | (simp; done) | (simp; omega))), (hS.pick [0, 1, 2] rfl rfl), (by first | (have hw : way = 1 := by simpa using hc4); subst hw; rw [show FitsP 1 l k a b x ↔ InL l k x by simp [FitsP], ← hzi]; simp; done | (have hw : way = 2 := by simpa using hc5); subst hw; rw [show FitsP 2 l k a b x ↔ InL l k x ∧ 0 < x.weight by simp [FitsP], ← hzi]; (first | (simp at hg17_1; simp [hg17_1]; done) | (refine ⟨fun h => ?_, fun h => absurd h.1 (by omega)⟩; first | (simp at h; done) | (simp at h; omega))) | (have hw : way = 3 := by simpa using hc6); rw [pick_fits hA hz hy (.inl hw)]; (first | (simp at hg21_1; simp [hg21_1]; done) | (refine ⟨fun h => ?_, fun h => absurd h.1 (by omega)⟩; first | (simp at h; done) | (simp at h; omega))) | (have hw : way = 4 := by simpa using hc7); rw [pick_fits hA hz hy (.inr hw)]; (first | (simp at hg21_1; simp [hg21_1]; done) | (refine ⟨fun h => ?_, fun h => absurd h.1 (by omega)⟩; first | (simp at h; done) | (simp at h; omega))) | (simp at hc4 hc5 hc6 hc7; simp [FitsP, hc4, hc5, hc6, hc7]; done))⟩
             try (exfalso; first | with_reducible exact absurd hc4 Bool.false_ne_true | with_reducible exact absurd hc4.symm Bool.false_ne_true | (simp only [nrm] at hc4; omega) | (simp at hc4; done))
             all_goals
              try simp only [nrm] at hc4
              refine wp_seq_k ?_; intro K21 hK21
              refine wlit ?_
              refine wl_v (x_eql (tmI rfl rfl) (ev_cN 2)) ?_
              refine wl_v (x_assign (tmB rfl rfl)) ?_
              refine wl_nil ?_
              refine then_n (hK21 _ _ ?_); clear hK21 K21
              refine cnd (tm rfl) (fun hc5 => ?_) (fun hc5 => ?_)
              · try (exfalso; first | with_reducible exact absurd hc5 Bool.false_ne_true | with_reducible exact absurd hc5.symm Bool.false_ne_true | (simp only [nrm] at hc5; omega) | (simp at hc5; done))
                all_goals
                 try simp only [nrm] at hc5
                 refine wlit ?_
                 refine wl_v (x_move (tmB rfl rfl)) ?_
                 refine wl_v (x_move (tmB rfl rfl)) ?_
                 refine gs_wl (tm (t := 57) rfl) (fun hg17_1 => ?_) (fun hg17_1 => ?_)
                 · have hg17_1' := hg17_1; (try simp only [nrm] at hg17_1'); try (exfalso; first | with_reducible exact absurd hg17_1 Bool.false_ne_true | with_reducible exact absurd hg17_1.symm Bool.false_ne_true | omega | (simp at hg17_1; done))
                   all_goals
                    refine wl_gv (want_y rfl rfl rfl rfl (by rw [hg17_1]; rfl)) (x_fa 2 Try.underlying40 rfl rfl ts_3 (tmP rfl rfl)) ?_
                    first
                     | refine wl_gv (want_y rfl rfl rfl rfl (by rw [hg17_1]; rfl)) (x_load Try.underlying3 rfl (tmP rfl rfl) (cellB hS.ok 0 rfl rfl)) ?_
                     | refine wl_gv (want_y rfl rfl rfl rfl (by rw [hg17_1]; rfl)) (x_load Try.underlying3 rfl (tmP rfl rfl) (cellB hS.ok 0 rfl (getm (by omega)))) ?_
                    refine wl_gv (want_y rfl rfl rfl rfl (by rw [hg17_1]; rfl)) (x_gtr (tmI rfl rfl) (ev_cN 0)) ?_
                    refine wl_v (x_pickT (tmB rfl rfl) hg17_1 (tmB rfl rfl)) ?_
                    refine wl_v (x_assign (tmB rfl rfl)) ?_
                    refine wl_nil ?_
                    exact then_n ⟨_, rfl, (by repeat (first | exact agree_self | exact agree_refl | refine agree_upd rfl ?_ | refine agree_mix rfl ?_)), _, (by first | rfl | go_num | exact congrArg (Value.int _) (by first | omega | (simp; done) | (simp; omega))), (hS.pick [0, 1, 2] rfl rfl), (by first | (have hw : way = 1 := by simpa using hc4); subst hw; rw [show FitsP 1 l k a b x ↔ InL l k x by simp [FitsP], ← hzi]; simp; done | (have hw : way = 2 := by simpa using hc5); subst hw; rw [show FitsP 2 l k a b x ↔ InL l k x ∧ 0 < x.weight by simp [FitsP], ← hzi]; (first | (simp at hg17_1; simp [hg17_1]; done) | (refine ⟨fun h => ?_, fun h => absurd h.1 (by omega)⟩; first | (simp at h; done) | (simp at h; omega))) | (have hw : way = 3 := by simpa using hc6); rw [pick_fits hA hz hy (.inl hw)]; (first | (simp at hg21_1; simp [hg21_1]; done) | (refine ⟨fun h => ?_, fun h => absurd h.1 (by omega)⟩; first | (simp at h; done) | (simp at h; omega))) | (have hw : way = 4 := by simpa using hc7); rw [pick_fits hA hz hy (.inr hw)]; (first | (simp at hg21_1; simp [hg21_1]; done) | (refine ⟨fun h => ?_, fun h => absurd h.1 (by omega)⟩; first | (simp at h; done) | (simp at h; omega))) | (simp at hc4 hc5 hc6 hc7; simp [FitsP, hc4, hc5, hc6, hc7]; done))⟩
                 have hg17_1' := hg17_1; (try simp only [nrm] at hg17_1'); try (exfalso; first | with_reducible exact absurd hg17_1 Bool.false_ne_true | with_reducible exact absurd hg17_1.symm Bool.false_ne_true | omega | (simp at hg17_1; done))
                 all_goals
                  refine wl_s rfl (want_n rfl rfl rfl rfl (by rw [hg17_1]; rfl)) ?_
                  refine wl_s rfl (want_n rfl rfl rfl rfl (by rw [hg17_1]; rfl)) ?_
                  refine wl_s rfl (want_n rfl rfl rfl rfl (by rw [hg17_1]; rfl)) ?_
                  refine wl_v (x_pickF (tmB rfl rfl) hg17_1 ev_c) ?_
                  refine wl_v (x_assign (tmB rfl rfl)) ?_
                  refine wl_nil ?_
                  exact then_n ⟨_, rfl, (by repeat (first | exact agree_self | exact agree_refl | refine agree_upd rfl ?_ | refine agree_mix rfl ?_)), _, (by first | rfl | go_num | exact congrArg (Value.int _) (by first | omega | (simp; done) | (simp; omega))), (hS.pick [0, 1, 2] rfl rfl), (by first | (have hw : way = 1 := by simpa using hc4); subst hw; rw [show FitsP 1 l k a b x ↔ InL l k x by simp [FitsP], ← hzi]; simp; done | (have hw : way = 2 := by simpa using hc5); subst hw; rw [show FitsP 2 l k a b x ↔ InL l k x ∧ 0 < x.weight by simp [FitsP], ← hzi]; (first | (simp at hg17_1; simp [hg17_1]; done) | (refine ⟨fun h => ?_, fun h => absurd h.1 (by omega)⟩; first | (simp at h; done) | (simp at h; omega))) | (have hw : way = 3 := by simpa using hc6); rw [pick_fits hA hz hy (.inl hw)]; (first | (simp at hg21_1; simp [hg21_1]; done) | (refine ⟨fun h => ?_, fun h => absurd h.1 (by omega)⟩; first | (simp at h; done) | (simp at h; omega))) | (have hw : way = 4 := by simpa using hc7); rw [pick_fits hA hz hy (.inr hw)]; (first | (simp at hg21_1; simp [hg21_1]; done) | (refine ⟨fun h => ?_, fun h => absurd h.1 (by omega)⟩; first | (simp at h; done) | (simp at h; omega))) | (simp at hc4 hc5 hc6 hc7; simp [FitsP, hc4, hc5, hc6, hc7]; done))⟩
              try (exfalso; first | with_reducible exact absurd hc5 Bool.false_ne_true | with_reducible exact absurd hc5.symm Bool.false_ne_true | (simp only [nrm] at hc5; omega) | (simp at hc5; done))
              all_goals
               try simp only [nrm] at hc5
               refine wp_seq_k ?_; intro K22 hK22
               refine wp_seq_k ?_; intro K23 hK23
               refine wlit ?_
               refine wl_v (x_eql (tmI rfl rfl) (ev_cN 3)) ?_
               refine wl_v (x_assign (tmB rfl rfl)) ?_
               refine wl_nil ?_
               refine then_n (hK23 _ _ ?_); clear hK23 K23
               refine cnd (tm rfl) (fun hc6 => ?_) (fun hc6 => ?_)
               · try (exfalso; first | with_reducible exact absurd hc6 Bool.false_ne_true | with_reducible exact absurd hc6.symm Bool.false_ne_true | (simp only [nrm] at hc6; omega) | (simp at hc6; done))
                 all_goals
                  try simp only [nrm] at hc6
                  refine wp_skip ?_
                  refine then_n (hK22 _ _ ?_); clear hK22 K22
                  refine cnd (tm rfl) (fun hc7 => ?_) (fun hc7 => ?_)
                  · try (exfalso; first | with_reducible exact absurd hc7 Bool.false_ne_true | with_reducible exact absurd hc7.symm Bool.false_ne_true | (simp only [nrm] at hc7; omega) | (simp at hc7; done))
                    all_goals
                     try simp only [nrm] at hc7
                     refine wp_seq_k ?_; intro K24 hK24
                     refine wlit ?_
                     refine wl_v (x_build (bc_skip (.int .i64 0) <| bc_skip (.slice none 0 0) <| bc_nil) (by kernel_rfl)) ?_
                     refine wl_v (x_fa 0 Try.underlying46 rfl rfl ts_3 (tmP rfl rfl)) ?_
                     first
                      | refine wl_v (x_load Try.underlying3 rfl (tmP rfl rfl) (cellB hS.ok 1 rfl rfl)) ?_
                      | refine wl_v (x_load Try.underlying3 rfl (tmP rfl rfl) (cellB hS.ok 1 rfl (getm (by omega)))) ?_
                     refine wl_v (x_fa 1 Try.underlying46 rfl rfl ts_30 (tmP rfl rfl)) ?_
                     first
                      | refine wl_v (x_load Try.underlying30 rfl (tmP rfl rfl) (cellB hS.ok 1 rfl rfl)) ?_
                      | refine wl_v (x_load Try.underlying30 rfl (tmP rfl rfl) (cellB hS.ok 1 rfl (getm (by omega)))) ?_
                     refine wl_v (x_fa 2 Try.underlying46 rfl rfl ts_31 (tmP rfl rfl)) ?_
                     first
                      | refine wl_v (x_load Try.underlying31 rfl (tmP rfl rfl) (cellB hS.ok 1 rfl rfl)) ?_
                      | refine wl_v (x_load Try.underlying31 rfl (tmP rfl rfl) (cellB hS.ok 1 rfl (getm (by omega)))) ?_
                     refine wl_v (x_fa 3 Try.underlying46 rfl rfl ts_31 (tmP rfl rfl)) ?_
                     first
                      | refine wl_v (x_load Try.underlying31 rfl (tmP rfl rfl) (cellB hS.ok 1 rfl rfl)) ?_
                      | refine wl_v (x_load Try.underlying31 rfl (tmP rfl rfl) (cellB hS.ok 1 rfl (getm (by omega)))) ?_
                     refine wl_e rfl ?_; intro K hK
                     refine ow_call Try.func14 rfl rfl (evs_cons (tmA rfl rfl) <| evs_cons (tmI rfl rfl) <| evs_cons (tmS rfl rfl) <| evs_cons (tmI rfl rfl) <| evs_cons (tmI rfl rfl) <| evs_nil) (choose34_c way k A c l a b _ (viewV hS.ok 2 rfl) hl (by omega) hR (by first | (left; simpa using hc6) | (right; simpa using hc7)) ha hb) ?_
                     rintro e w ⟨y, rfl, hy, hk⟩
                     refine ⟨_, rfl, ?_⟩
                     replace hS := hS.kept hk
                     clear hk
                     refine hK _ _ ?_; clear hK K
                     refine wl_v (x_move (tmT rfl rfl)) ?_
                     refine wl_v (x_ext (tmT rfl rfl) rfl) ?_
                     refine wl_v (x_ext (tmT rfl rfl) rfl) ?_
                     refine wl_e rfl ?_; intro K hK
                     refine ow_alloc hS tz_48 rfl ?_
                     clear hS; intro g20_13 w hg20_13 hS
                     refine hK _ _ ?_; clear hK K
                     refine wl_e rfl ?_; intro K hK
                     refine ow_storeA hS 0 rfl ts_48 (tmP rfl rfl) (tmA rfl rfl) rfl rfl rfl ?_
                     clear hS; intro w hS
                     refine hK _ _ ?_; clear hK K
                     refine wl_v (x_assign (tmI rfl rfl)) ?_
                     refine wl_nil ?_
                     refine then_n (hK24 _ _ ?_); clear hK24 K24
                     refine wlit ?_
                     refine wl_v (x_move (tmB rfl rfl)) ?_
                     refine wl_v (x_move (tmB rfl rfl)) ?_
                     refine gs_wl (tm (t := 79) rfl) (fun hg21_1 => ?_) (fun hg21_1 => ?_)
                     · have hg21_1' := hg21_1; (try simp only [nrm] at hg21_1'); try (exfalso; first | with_reducible exact absurd hg21_1 Bool.false_ne_true | with_reducible exact absurd hg21_1.symm Bool.false_ne_true | omega | (simp at hg21_1; done))
                       all_goals
                        refine wl_gv (want_y rfl rfl rfl rfl (by rw [hg21_1]; rfl)) (x_move (tmI rfl rfl)) ?_
                        refine wl_gv (want_y rfl rfl rfl rfl (by rw [hg21_1]; rfl)) (x_move (tmI rfl rfl)) ?_
                        refine wl_gv (want_y rfl rfl rfl rfl (by rw [hg21_1]; rfl)) (x_eql (tmI rfl rfl) (tmI rfl rfl)) ?_
                        refine wl_v (x_pickT (tmB rfl rfl) hg21_1 (tmB rfl rfl)) ?_
                        refine wl_v (x_assign (tmB rfl rfl)) ?_
                        refine wl_nil ?_
                        exact then_n ⟨_, rfl, (by repeat (first | exact agree_self | exact agree_refl | refine agree_upd rfl ?_ | refine agree_mix rfl ?_)), _, (by first | rfl | go_num | exact congrArg (Value.int _) (by first | omega | (simp; done) | (simp; omega))), (hS.pick [1, 2, 3] rfl rfl), (by first | (have hw : way = 1 := by simpa using hc4); subst hw; rw [show FitsP 1 l k a b x ↔ InL l k x by simp [FitsP], ← hzi]; simp; done | (have hw : way = 2 := by simpa using hc5); subst hw; rw [show FitsP 2 l k a b x ↔ InL l k x ∧ 0 < x.weight by simp [FitsP], ← hzi]; (first | (simp at hg17_1; simp [hg17_1]; done) | (refine ⟨fun h => ?_, fun h => absurd h.1 (by omega)⟩; first | (simp at h; done) | (simp at h; omega))) | (have hw : way = 3 := by simpa using hc6); rw [pick_fits hA hz hy (.inl hw)]; (first | (simp at hg21_1; simp [hg21_1]; done) | (refine ⟨fun h => ?_, fun h => absurd h.1 (by omega)⟩; first | (simp at h; done) | (simp at h; omega))) | (have hw : way = 4 := by simpa using hc7); rw [pick_fits hA hz hy (.inr hw)]; (first | (simp at hg21_1; simp [hg21_1]; done) | (refine ⟨fun h => ?_, fun h => absurd h.1 (by omega)⟩; first | (simp at h; done) | (simp at h; omega))) | (simp at hc4 hc5 hc6 hc7; simp [FitsP, hc4, hc5, hc6, hc7]; done))⟩
                     have hg21_1' := hg21_1; (try simp only [nrm] at hg21_1'); try (exfalso; first | with_reducible exact absurd hg21_1 Bool.false_ne_true | with_reducible exact absurd hg21_1.symm Bool.false_ne_true | omega | (simp at hg21_1; done))
                     all_goals
                      refine wl_s rfl (want_n rfl rfl rfl rfl (by rw [hg21_1]; rfl)) ?_
                      refine wl_s rfl (want_n rfl rfl rfl rfl (by rw [hg21_1]; rfl)) ?_
                      refine wl_s rfl (want_n rfl rfl rfl rfl (by rw [hg21_1]; rfl)) ?_
                      refine wl_v (x_pickF (tmB rfl rfl) hg21_1 ev_c) ?_
                      refine wl_v (x_assign (tmB rfl rfl)) ?_
                      refine wl_nil ?_
                      exact then_n ⟨_, rfl, (by repeat (first | exact agree_self | exact agree_refl | refine agree_upd rfl ?_ | refine agree_mix rfl ?_)), _, (by first | rfl | go_num | exact congrArg (Value.int _) (by first | omega | (simp; done) | (simp; omega))), (hS.pick [1, 2, 3] rfl rfl), (by first | (have hw : way = 1 := by simpa using hc4); subst hw; rw [show FitsP 1 l k a b x ↔ InL l k x by simp [FitsP], ← hzi]; simp; done | (have hw : way = 2 := by simpa using hc5); subst hw; rw [show FitsP 2 l k a b x ↔ InL l k x ∧ 0 < x.weight by simp [FitsP], ← hzi]; (first | (simp at hg17_1; simp [hg17_1]; done) | (refine ⟨fun h => ?_, fun h => absurd h.1 (by omega)⟩; first | (simp at h; done) | (simp at h; omega))) | (have hw : way = 3 := by simpa using hc6); rw [pick_fits hA hz hy (.inl hw)]; (first | (simp at hg21_1; simp [hg21_1]; done) | (refine ⟨fun h => ?_, fun h => absurd h.1 (by omega)⟩; first | (simp at h; done) | (simp at h; omega))) | (have hw : way = 4 := by simpa using hc7); rw [pick_fits hA hz hy (.inr hw)]; (first | (simp at hg21_1; simp [hg21_1]; done) | (refine ⟨fun h => ?_, fun h => absurd h.1 (by omega)⟩; first | (simp at h; done) | (simp at h; omega))) | (simp at hc4 hc5 hc6 hc7; simp [FitsP, hc4, hc5, hc6, hc7]; done))⟩
                  try (exfalso; first | with_reducible exact absurd hc7 Bool.false_ne_true | with_reducible exact absurd hc7.symm Bool.false_ne_true | (simp only [nrm] at hc7; omega) | (simp at hc7; done))
                  all_goals
                   try simp only [nrm] at hc7
                   refine wlit ?_
                   refine wl_v (x_assign ev_c) ?_
                   refine wl_nil ?_
                   exact then_n ⟨_, rfl, (by repeat (first | exact agree_self | exact agree_refl | refine agree_upd rfl ?_ | refine agree_mix rfl ?_)), _, (by first | rfl | go_num | exact congrArg (Value.int _) (by first | omega | (simp; done) | (simp; omega))), (hS.pick [0, 1, 2] rfl rfl), (by first | (have hw : way = 1 := by simpa using hc4); subst hw; rw [show FitsP 1 l k a b x ↔ InL l k x by simp [FitsP], ← hzi]; simp; done | (have hw : way = 2 := by simpa using hc5); subst hw; rw [show FitsP 2 l k a b x ↔ InL l k x ∧ 0 < x.weight by simp [FitsP], ← hzi]; (first | (simp at hg17_1; simp [hg17_1]; done) | (refine ⟨fun h => ?_, fun h => absurd h.1 (by omega)⟩; first | (simp at h; done) | (simp at h; omega))) | (have hw : way = 3 := by simpa using hc6); rw [pick_fits hA hz hy (.inl hw)]; (first | (simp at hg21_1; simp [hg21_1]; done) | (refine ⟨fun h => ?_, fun h => absurd h.1 (by omega)⟩; first | (simp at h; done) | (simp at h; omega))) | (have hw : way = 4 := by simpa using hc7); rw [pick_fits hA hz hy (.inr hw)]; (first | (simp at hg21_1; simp [hg21_1]; done) | (refine ⟨fun h => ?_, fun h => absurd h.1 (by omega)⟩; first | (simp at h; done) | (simp at h; omega))) | (simp at hc4 hc5 hc6 hc7; simp [FitsP, hc4, hc5, hc6, hc7]; done))⟩
               try (exfalso; first | with_reducible exact absurd hc6 Bool.false_ne_true | with_reducible exact absurd hc6.symm Bool.false_ne_true | (simp only [nrm] at hc6; omega) | (simp at hc6; done))
               all_goals
                try simp only [nrm] at hc6
                refine wlit ?_
                refine wl_v (x_eql (tmI rfl rfl) (ev_cN 4)) ?_
                refine wl_v (x_assign (tmB rfl rfl)) ?_
                refine wl_nil ?_
                refine then_n (hK22 _ _ ?_); clear hK22 K22
                refine cnd (tm rfl) (fun hc7 => ?_) (fun hc7 => ?_)
                · try (exfalso; first | with_reducible exact absurd hc7 Bool.false_ne_true | with_reducible exact absurd hc7.symm Bool.false_ne_true | (simp only [nrm] at hc7; omega) | (simp at hc7; done))
                  all_goals
                   try simp only [nrm] at hc7
                   refine wp_seq_k ?_; intro K25 hK25
                   refine wlit ?_
                   refine wl_v (x_build (bc_skip (.int .i64 0) <| bc_skip (.slice none 0 0) <| bc_nil) (by kernel_rfl)) ?_
                   refine wl_v (x_fa 0 Try.underlying46 rfl rfl ts_3 (tmP rfl rfl)) ?_
                   first
                    | refine wl_v (x_load Try.underlying3 rfl (tmP rfl rfl) (cellB hS.ok 1 rfl rfl)) ?_
                    | refine wl_v (x_load Try.underlying3 rfl (tmP rfl rfl) (cellB hS.ok 1 rfl (getm (by omega)))) ?_
                   refine wl_v (x_fa 1 Try.underlying46 rfl rfl ts_30 (tmP rfl rfl)) ?_
                   first
                    | refine wl_v (x_load Try.underlying30 rfl (tmP rfl rfl) (cellB hS.ok 1 rfl rfl)) ?_
                    | refine wl_v (x_load Try.underlying30 rfl (tmP rfl rfl) (cellB hS.ok 1 rfl (getm (by omega)))) ?_
                   refine wl_v (x_fa 2 Try.underlying46 rfl rfl ts_31 (tmP rfl rfl)) ?_
                   first
                    | refine wl_v (x_load Try.underlying31 rfl (tmP rfl rfl) (cellB hS.ok 1 rfl rfl)) ?_
                    | refine wl_v (x_load Try.underlying31 rfl (tmP rfl rfl) (cellB hS.ok 1 rfl (getm (by omega)))) ?_
                   refine wl_v (x_fa 3 Try.underlying46 rfl rfl ts_31 (tmP rfl rfl)) ?_
                   first
                    | refine wl_v (x_load Try.underlying31 rfl (tmP rfl rfl) (cellB hS.ok 1 rfl rfl)) ?_
                    | refine wl_v (x_load Try.underlying31 rfl (tmP rfl rfl) (cellB hS.ok 1 rfl (getm (by omega)))) ?_
                   refine wl_e rfl ?_; intro K hK
                   refine ow_call Try.func14 rfl rfl (evs_cons (tmA rfl rfl) <| evs_cons (tmI rfl rfl) <| evs_cons (tmS rfl rfl) <| evs_cons (tmI rfl rfl) <| evs_cons (tmI rfl rfl) <| evs_nil) (choose34_c way k A c l a b _ (viewV hS.ok 2 rfl) hl (by omega) hR (by first | (left; simpa using hc6) | (right; simpa using hc7)) ha hb) ?_
                   rintro e w ⟨y, rfl, hy, hk⟩
                   refine ⟨_, rfl, ?_⟩
                   replace hS := hS.kept hk
                   clear hk
                   refine hK _ _ ?_; clear hK K
                   refine wl_v (x_move (tmT rfl rfl)) ?_
                   refine wl_v (x_ext (tmT rfl rfl) rfl) ?_
                   refine wl_v (x_ext (tmT rfl rfl) rfl) ?_
                   refine wl_e rfl ?_; intro K hK
                   refine ow_alloc hS tz_48 rfl ?_
                   clear hS; intro g20_13 w hg20_13 hS
                   refine hK _ _ ?_; clear hK K
                   refine wl_e rfl ?_; intro K hK
                   refine ow_storeA hS 0 rfl ts_48 (tmP rfl rfl) (tmA rfl rfl) rfl rfl rfl ?_
                   clear hS; intro w hS
                   refine hK _ _ ?_; clear hK K
                   refine wl_v (x_assign (tmI rfl rfl)) ?_
                   refine wl_nil ?_
                   refine then_n (hK25 _ _ ?_); clear hK25 K25
                   refine wlit ?_
                   refine wl_v (x_move (tmB rfl rfl)) ?_
                   refine wl_v (x_move (tmB rfl rfl)) ?_
                   refine gs_wl (tm (t := 79) rfl) (fun hg21_1 => ?_) (fun hg21_1 => ?_)
                   · have hg21_1' := hg21_1; (try simp only [nrm] at hg21_1'); try (exfalso; first | with_reducible exact absurd hg21_1 Bool.false_ne_true | with_reducible exact absurd hg21_1.symm Bool.false_ne_true | omega | (simp at hg21_1; done))
                     all_goals
                      refine wl_gv (want_y rfl rfl rfl rfl (by rw [hg21_1]; rfl)) (x_move (tmI rfl rfl)) ?_
                      refine wl_gv (want_y rfl rfl rfl rfl (by rw [hg21_1]; rfl)) (x_move (tmI rfl rfl)) ?_
                      refine wl_gv (want_y rfl rfl rfl rfl (by rw [hg21_1]; rfl)) (x_eql (tmI rfl rfl) (tmI rfl rfl)) ?_
                      refine wl_v (x_pickT (tmB rfl rfl) hg21_1 (tmB rfl rfl)) ?_
                      refine wl_v (x_assign (tmB rfl rfl)) ?_
                      refine wl_nil ?_
                      exact then_n ⟨_, rfl, (by repeat (first | exact agree_self | exact agree_refl | refine agree_upd rfl ?_ | refine agree_mix rfl ?_)), _, (by first | rfl | go_num | exact congrArg (Value.int _) (by first | omega | (simp; done) | (simp; omega))), (hS.pick [1, 2, 3] rfl rfl), (by first | (have hw : way = 1 := by simpa using hc4); subst hw; rw [show FitsP 1 l k a b x ↔ InL l k x by simp [FitsP], ← hzi]; simp; done | (have hw : way = 2 := by simpa using hc5); subst hw; rw [show FitsP 2 l k a b x ↔ InL l k x ∧ 0 < x.weight by simp [FitsP], ← hzi]; (first | (simp at hg17_1; simp [hg17_1]; done) | (refine ⟨fun h => ?_, fun h => absurd h.1 (by omega)⟩; first | (simp at h; done) | (simp at h; omega))) | (have hw : way = 3 := by simpa using hc6); rw [pick_fits hA hz hy (.inl hw)]; (first | (simp at hg21_1; simp [hg21_1]; done) | (refine ⟨fun h => ?_, fun h => absurd h.1 (by omega)⟩; first | (simp at h; done) | (simp at h; omega))) | (have hw : way = 4 := by simpa using hc7); rw [pick_fits hA hz hy (.inr hw)]; (first | (simp at hg21_1; simp [hg21_1]; done) | (refine ⟨fun h => ?_, fun h => absurd h.1 (by omega)⟩; first | (simp at h; done) | (simp at h; omega))) | (simp at hc4 hc5 hc6 hc7; simp [FitsP, hc4, hc5, hc6, hc7]; done))⟩
                   have hg21_1' := hg21_1; (try simp only [nrm] at hg21_1'); try (exfalso; first | with_reducible exact absurd hg21_1 Bool.false_ne_true | with_reducible exact absurd hg21_1.symm Bool.false_ne_true | omega | (simp at hg21_1; done))
                   all_goals
                    refine wl_s rfl (want_n rfl rfl rfl rfl (by rw [hg21_1]; rfl)) ?_
                    refine wl_s rfl (want_n rfl rfl rfl rfl (by rw [hg21_1]; rfl)) ?_
                    refine wl_s rfl (want_n rfl rfl rfl rfl (by rw [hg21_1]; rfl)) ?_
                    refine wl_v (x_pickF (tmB rfl rfl) hg21_1 ev_c) ?_
                    refine wl_v (x_assign (tmB rfl rfl)) ?_
                    refine wl_nil ?_
                    exact then_n ⟨_, rfl, (by repeat (first | exact agree_self | exact agree_refl | refine agree_upd rfl ?_ | refine agree_mix rfl ?_)), _, (by first | rfl | go_num | exact congrArg (Value.int _) (by first | omega | (simp; done) | (simp; omega))), (hS.pick [1, 2, 3] rfl rfl), (by first | (have hw : way = 1 := by simpa using hc4); subst hw; rw [show FitsP 1 l k a b x ↔ InL l k x by simp [FitsP], ← hzi]; simp; done | (have hw : way = 2 := by simpa using hc5); subst hw; rw [show FitsP 2 l k a b x ↔ InL l k x ∧ 0 < x.weight by simp [FitsP], ← hzi]; (first | (simp at hg17_1; simp [hg17_1]; done) | (refine ⟨fun h => ?_, fun h => absurd h.1 (by omega)⟩; first | (simp at h; done) | (simp at h; omega))) | (have hw : way = 3 := by simpa using hc6); rw [pick_fits hA hz hy (.inl hw)]; (first | (simp at hg21_1; simp [hg21_1]; done) | (refine ⟨fun h => ?_, fun h => absurd h.1 (by omega)⟩; first | (simp at h; done) | (simp at h; omega))) | (have hw : way = 4 := by simpa using hc7); rw [pick_fits hA hz hy (.inr hw)]; (first | (simp at hg21_1; simp [hg21_1]; done) | (refine ⟨fun h => ?_, fun h => absurd h.1 (by omega)⟩; first | (simp at h; done) | (simp at h; omega))) | (simp at hc4 hc5 hc6 hc7; simp [FitsP, hc4, hc5, hc6, hc7]; done))⟩
                try (exfalso; first | with_reducible exact absurd hc7 Bool.false_ne_true | with_reducible exact absurd hc7.symm Bool.false_ne_true | (simp only [nrm] at hc7; omega) | (simp at hc7; done))
                all_goals
                 try simp only [nrm] at hc7
                 refine wlit ?_
                 refine wl_v (x_assign ev_c) ?_
                 refine wl_nil ?_
                 exact then_n ⟨_, rfl, (by repeat (first | exact agree_self | exact agree_refl | refine agree_upd rfl ?_ | refine agree_mix rfl ?_)), _, (by first | rfl | go_num | exact congrArg (Value.int _) (by first | omega | (simp; done) | (simp; omega))), (hS.pick [0, 1, 2] rfl rfl), (by first | (have hw : way = 1 := by simpa using hc4); subst hw; rw [show FitsP 1 l k a b x ↔ InL l k x by simp [FitsP], ← hzi]; simp; done | (have hw : way = 2 := by simpa using hc5); subst hw; rw [show FitsP 2 l k a b x ↔ InL l k x ∧ 0 < x.weight by simp [FitsP], ← hzi]; (first | (simp at hg17_1; simp [hg17_1]; done) | (refine ⟨fun h => ?_, fun h => absurd h.1 (by omega)⟩; first | (simp at h; done) | (simp at h; omega))) | (have hw : way = 3 := by simpa using hc6); rw [pick_fits hA hz hy (.inl hw)]; (first | (simp at hg21_1; simp [hg21_1]; done) | (refine ⟨fun h => ?_, fun h => absurd h.1 (by omega)⟩; first | (simp at h; done) | (simp at h; omega))) | (have hw : way = 4 := by simpa using hc7); rw [pick_fits hA hz hy (.inr hw)]; (first | (simp at hg21_1; simp [hg21_1]; done) | (refine ⟨fun h => ?_, fun h => absurd h.1 (by omega)⟩; first | (simp at h; done) | (simp at h; omega))) | (simp at hc4 hc5 hc6 hc7; simp [FitsP, hc4, hc5, hc6, hc7]; done))⟩
           · clear hS; intro g w hI
             obtain ⟨W, hs10, hS, hW⟩ := hI
             refine fr_knowQ (d := 10) hs10 ?_; clear hs10
             refine inb_n ?_
             refine then_n (hK17 _ _ ?_); clear hK17 K17
             refine wp_seq_k ?_; intro K26 hK26
             refine rg_startk 0 hS mixed_ ?_
             clear hS; intro w hS
             refine rg_take 0 rfl rfl (by kernel_rfl) (by kernel_rfl) (by kernel_rfl) (want_0) (fun w hok => x_fa 0 Try.underlying46 rfl rfl ts_3 (tmP rfl rfl)) ?_
             first
              | refine rg_take 1 rfl rfl (by kernel_rfl) (by kernel_rfl) (by kernel_rfl) (want_0) (fun w hok => x_load Try.underlying3 rfl (tmP rfl rfl) (cellB hok 1 rfl rfl)) ?_
              | refine rg_take 1 rfl rfl (by kernel_rfl) (by kernel_rfl) (by kernel_rfl) (want_0) (fun w hok => x_load Try.underlying3 rfl (tmP rfl rfl) (cellB hok 1 rfl (getm (by omega)))) ?_
             refine rg_take 2 rfl rfl (by kernel_rfl) (by kernel_rfl) (by kernel_rfl) (want_0) (fun w hok => x_fa 1 Try.underlying46 rfl rfl ts_30 (tmP rfl rfl)) ?_
             first
              | refine rg_take 3 rfl rfl (by kernel_rfl) (by kernel_rfl) (by kernel_rfl) (want_0) (fun w hok => x_load Try.underlying30 rfl (tmP rfl rfl) (cellB hok 1 rfl rfl)) ?_
              | refine rg_take 3 rfl rfl (by kernel_rfl) (by kernel_rfl) (by kernel_rfl) (want_0) (fun w hok => x_load Try.underlying30 rfl (tmP rfl rfl) (cellB hok 1 rfl (getm (by omega)))) ?_
             refine rg_take 5 rfl rfl (by kernel_rfl) (by kernel_rfl) (by kernel_rfl) (want_0) (fun w hok => x_fa 2 Try.underlying46 rfl rfl ts_31 (tmP rfl rfl)) ?_
             first
              | refine rg_take 6 rfl rfl (by kernel_rfl) (by kernel_rfl) (by kernel_rfl) (want_0) (fun w hok => x_load Try.underlying31 rfl (tmP rfl rfl) (cellB hok 1 rfl rfl)) ?_
              | refine rg_take 6 rfl rfl (by kernel_rfl) (by kernel_rfl) (by kernel_rfl) (want_0) (fun w hok => x_load Try.underlying31 rfl (tmP rfl rfl) (cellB hok 1 rfl (getm (by omega)))) ?_
             refine rg_take 7 rfl rfl (by kernel_rfl) (by kernel_rfl) (by kernel_rfl) (want_0) (fun w hok => x_fa 3 Try.underlying46 rfl rfl ts_31 (tmP rfl rfl)) ?_
             first
              | refine rg_take 8 rfl rfl (by kernel_rfl) (by kernel_rfl) (by kernel_rfl) (want_0) (fun w hok => x_load Try.underlying31 rfl (tmP rfl rfl) (cellB hok 1 rfl rfl)) ?_
              | refine rg_take 8 rfl rfl (by kernel_rfl) (by kernel_rfl) (by kernel_rfl) (want_0) (fun w hok => x_load Try.underlying31 rfl (tmP rfl rfl) (cellB hok 1 rfl (getm (by omega)))) ?_
             refine rg_take 9 rfl rfl (by kernel_rfl) (by kernel_rfl) (by kernel_rfl) (want_0) (fun w hok => x_loadA (cs := [_, _, _, _]) Try.underlying40 rfl ts_40 (tmP rfl rfl) (rangeB hok 0 rfl rfl)) ?_
             refine rg_take 15 rfl rfl (by kernel_rfl) (by kernel_rfl) (by kernel_rfl) (want_0) (fun w hok => x_move (tmB rfl rfl)) ?_
             refine rg_step2 4 10 rfl rfl (by kernel_rfl) (want_0) (want_0) (oks_drop hS 0 rfl) ?_ ?_
             · intro K hK
               refine ow_call Try.func16 rfl rfl (evs_cons (tmS rfl rfl) <| evs_nil) (to21_c k A c l _ (viewV hS.ok 2 rfl) hl (by omega)) ?_
               rintro e w ⟨A2, c2, rfl, hn2, hk⟩
               refine ⟨_, rfl, ?_⟩
               replace hS := hS.add hk hn2 -- +r1
               clear hn2 hk
               refine hK _ _ ?_; clear hK K
               refine rg_step 10 rfl (by kernel_rfl) (want_0) (oks_drop hS 1 rfl) ?_; intro K hK
               refine ow_build hS Try.underlying30 tz_40 (bc_takeL (tmA rfl rfl) <| bc_nil) rfl rfl (by kernel_rfl) ?_
               clear hS; intro g22_10 w hg22_10 hS
               refine hK _ _ ?_; clear hK K
               refine rg_step 11 rfl (by kernel_rfl) (want_0) (oks_drop hS 2 rfl) ?_; intro K hK
               refine ow_call Try.func16 rfl rfl (evs_cons (tmS rfl rfl) <| evs_nil) (to21_c 1 _ _ [x] _ (viewB hS.ok 0 rfl) rfl (by omega)) ?_
               rintro e w ⟨A3, c3, rfl, hn3, hk⟩
               refine ⟨_, rfl, ?_⟩
               replace hS := hS.add hk hn3 -- +r2
               clear hn3 hk
               obtain ⟨gA, rfl⟩ := row_some (hS.rowOk 0 rfl) (by omega)
               refine hK _ _ ?_; clear hK K
               refine rg_take 12 rfl rfl (by kernel_rfl) (by kernel_rfl) (by kernel_rfl) (want_0) (fun w hok => x_ixs Try.underlying36 ts_33 (tmS rfl rfl) (ev_cN 0) (by omega)) ?_
               refine rg_step 13 rfl (by kernel_rfl) (want_0) (oks_drop hS 3 rfl) ?_; intro K hK
               refine ow_v (x_loadA Try.underlying33 rfl (by exact ts_33) (tmP rfl rfl) (rangeRs (enc := cnV) (j := 0) hS.ok 0 rfl cnV_len (by simp))) ?_
               refine hK _ _ ?_; clear hK K
               refine rg_step 14 rfl (by kernel_rfl) (want_0) (oks_drop hS 3 rfl) ?_; intro K hK
               refine ow_call Try.func15 rfl rfl (evs_cons (tmI rfl rfl) <| evs_cons (tmS rfl rfl) <| evs_cons (tmI rfl rfl) <| evs_cons (tmI rfl rfl) <| evs_cons (tmA rfl rfl) <| evs_nil) (fits_j way k A2 c2 l a b x _ (viewR hS.ok 2 rfl) hl (by omega) ha hb) ?_
               rintro e w ⟨r, rfl, hr, hk⟩
               refine ⟨_, rfl, ?_⟩
               replace hS := hS.kept hk
               clear hk
               obtain rfl : r = W := Bool.eq_iff_iff.2 (hr.trans hW.symm)
               refine hK _ _ ?_; clear hK K
               refine rg_take 16 rfl rfl (by kernel_rfl) (by kernel_rfl) (by kernel_rfl) (want_0) (fun w hok => x_beql Try.underlying4 (tmB rfl rfl) (tmB rfl rfl)) ?_
               refine rg_take 17 rfl rfl (by kernel_rfl) (by kernel_rfl) (by kernel_rfl) (want_0) (fun w hok => x_move (tmB rfl rfl)) ?_
               refine gs_rgs (tm (t := 101) rfl) (fun hg22_17 => ?_) (fun hg22_17 => ?_)
               · exfalso
                 simp at hg22_17
               have hg22_17' := hg22_17; (try simp only [nrm] at hg22_17'); try (exfalso; first | with_reducible exact absurd hg22_17 Bool.false_ne_true | with_reducible exact absurd hg22_17.symm Bool.false_ne_true | omega | (simp at hg22_17; done))
               all_goals
                refine rg_step 18 rfl (by kernel_rfl) (want_y rfl rfl rfl rfl (by rw [hg22_17]; rfl)) (oks_drop hS 3 rfl) ?_; intro K hK
                refine ow_call Try.func13 rfl rfl (evs_nil) (law21_awake_c _) ?_
                rintro e w ⟨rfl, hk⟩
                refine ⟨_, rfl, ?_⟩
                replace hS := hS.kept hk
                clear hk
                refine hK _ _ ?_; clear hK K
                refine rg_take 19 rfl rfl (by kernel_rfl) (by kernel_rfl) (by kernel_rfl) (want_0) (fun w hok => x_pickT (tmB rfl rfl) hg22_17 (tmB rfl rfl)) ?_
                refine rg_take 20 rfl rfl (by kernel_rfl) (by kernel_rfl) (by kernel_rfl) (want_0) (fun w hok => x_assign (tmB rfl rfl)) ?_
                refine rg_done (oks_drop hS 3 rfl) (by kernel_rfl) ?_
                refine then_n (hK26 _ _ ?_); clear hK26 K26
                refine wp_ret ?_
                refine ret1 rfl (.tmp rfl (show _ = Value.bool _ from rfl)) ?_
                exact ⟨rfl, hS.kp.below⟩
             · intro K hK
               refine ow_build hS Try.underlying30 tz_40 (bc_takeL (tmA rfl rfl) <| bc_nil) rfl rfl (by kernel_rfl) ?_
               clear hS; intro g22_10 w hg22_10 hS
               refine hK _ _ ?_; clear hK K
               refine rg_step 4 rfl (by kernel_rfl) (want_0) (oks_drop hS 1 rfl) ?_; intro K hK
               refine ow_call Try.func16 rfl rfl (evs_cons (tmS rfl rfl) <| evs_nil) (to21_c k A c l _ (viewV hS.ok 3 rfl) hl (by omega)) ?_
               rintro e w ⟨A2, c2, rfl, hn2, hk⟩
               refine ⟨_, rfl, ?_⟩
               replace hS := hS.add hk hn2 -- +r1
               clear hn2 hk
               refine hK _ _ ?_; clear hK K
               refine rg_step 11 rfl (by kernel_rfl) (want_0) (oks_drop hS 2 rfl) ?_; intro K hK
               refine ow_call Try.func16 rfl rfl (evs_cons (tmS rfl rfl) <| evs_nil) (to21_c 1 _ _ [x] _ (viewB hS.ok 1 rfl) rfl (by omega)) ?_
               rintro e w ⟨A3, c3, rfl, hn3, hk⟩
               refine ⟨_, rfl, ?_⟩
               replace hS := hS.add hk hn3 -- +r2
               clear hn3 hk
               obtain ⟨gA, rfl⟩ := row_some (hS.rowOk 0 rfl) (by omega)
               refine hK _ _ ?_; clear hK K
               refine rg_take 12 rfl rfl (by kernel_rfl) (by kernel_rfl) (by kernel_rfl) (want_0) (fun w hok => x_ixs Try.underlying36 ts_33 (tmS rfl rfl) (ev_cN 0) (by omega)) ?_
               refine rg_step 13 rfl (by kernel_rfl) (want_0) (oks_drop hS 3 rfl) ?_; intro K hK
               refine ow_v (x_loadA Try.underlying33 rfl (by exact ts_33) (tmP rfl rfl) (rangeRs (enc := cnV) (j := 0) hS.ok 0 rfl cnV_len (by simp))) ?_
               refine hK _ _ ?_; clear hK K
               refine rg_step 14 rfl (by kernel_rfl) (want_0) (oks_drop hS 3 rfl) ?_; intro K hK
               refine ow_call Try.func15 rfl rfl (evs_cons (tmI rfl rfl) <| evs_cons (tmS rfl rfl) <| evs_cons (tmI rfl rfl) <| evs_cons (tmI rfl rfl) <| evs_cons (tmA rfl rfl) <| evs_nil) (fits_j way k A2 c2 l a b x _ (viewR hS.ok 1 rfl) hl (by omega) ha hb) ?_
               rintro e w ⟨r, rfl, hr, hk⟩
               refine ⟨_, rfl, ?_⟩
               replace hS := hS.kept hk
               clear hk
               obtain rfl : r = W := Bool.eq_iff_iff.2 (hr.trans hW.symm)
               refine hK _ _ ?_; clear hK K
               refine rg_take 16 rfl rfl (by kernel_rfl) (by kernel_rfl) (by kernel_rfl) (want_0) (fun w hok => x_beql Try.underlying4 (tmB rfl rfl) (tmB rfl rfl)) ?_
               refine rg_take 17 rfl rfl (by kernel_rfl) (by kernel_rfl) (by kernel_rfl) (want_0) (fun w hok => x_move (tmB rfl rfl)) ?_
               refine gs_rgs (tm (t := 101) rfl) (fun hg22_17 => ?_) (fun hg22_17 => ?_)
               · exfalso
                 simp at hg22_17
               have hg22_17' := hg22_17; (try simp only [nrm] at hg22_17'); try (exfalso; first | with_reducible exact absurd hg22_17 Bool.false_ne_true | with_reducible exact absurd hg22_17.symm Bool.false_ne_true | omega | (simp at hg22_17; done))
               all_goals
                refine rg_step 18 rfl (by kernel_rfl) (want_y rfl rfl rfl rfl (by rw [hg22_17]; rfl)) (oks_drop hS 3 rfl) ?_; intro K hK
                refine ow_call Try.func13 rfl rfl (evs_nil) (law21_awake_c _) ?_
                rintro e w ⟨rfl, hk⟩
                refine ⟨_, rfl, ?_⟩
                replace hS := hS.kept hk
                clear hk
                refine hK _ _ ?_; clear hK K
                refine rg_take 19 rfl rfl (by kernel_rfl) (by kernel_rfl) (by kernel_rfl) (want_0) (fun w hok => x_pickT (tmB rfl rfl) hg22_17 (tmB rfl rfl)) ?_
                refine rg_take 20 rfl rfl (by kernel_rfl) (by kernel_rfl) (by kernel_rfl) (want_0) (fun w hok => x_assign (tmB rfl rfl)) ?_
                refine rg_done (oks_drop hS 3 rfl) (by kernel_rfl) ?_
                refine then_n (hK26 _ _ ?_); clear hK26 K26
                refine wp_ret ?_
                refine ret1 rfl (.tmp rfl (show _ = Value.bool _ from rfl)) ?_
                exact ⟨rfl, hS.kp.below⟩
   have hg4_2' := hg4_2; (try simp only [nrm] at hg4_2'); try (exfalso; first | with_reducible exact absurd hg4_2 Bool.false_ne_true | with_reducible exact absurd hg4_2.symm Bool.false_ne_true | omega | (simp at hg4_2; done))
   all_goals
    refine wl_s rfl (want_n rfl rfl rfl rfl (by rw [hg4_2]; rfl)) ?_
    refine wl_s rfl (want_n rfl rfl rfl rfl (by rw [hg4_2]; rfl)) ?_
    refine wl_s rfl (want_n rfl rfl rfl rfl (by rw [hg4_2]; rfl)) ?_
    refine wl_s rfl (want_n rfl rfl rfl rfl (by rw [hg4_2]; rfl)) ?_
    refine wl_s rfl (want_n rfl rfl rfl rfl (by rw [hg4_2]; rfl)) ?_
    refine wl_v (x_pickF (tmB rfl rfl) hg4_2 ev_c) ?_
    refine wl_nil ?_
    refine then_n (hK7 _ _ ?_); clear hK7 K7
    refine cutc [28, 29, 30, 31, 32] (fun g w => ∃ (x : Cn), St [] w0 [.blk g3_1 40 (cnV x), .blk g0_0 46 [.int .i64 way, .slice A n c, .int .u32 (a : Int), .int .u32 (b : Int)], .vw A (flat cnV l)] w) ?_ ?_
    · skip
      refine cnd_f (tmB rfl rfl) rfl ?_
      refine wp_skip ?_
      exact then_n ⟨_, rfl, (by repeat (first | exact agree_self | exact agree_refl | refine agree_upd rfl ?_ | refine agree_mix rfl ?_)), _, (hS.pick [0, 2, 3] rfl rfl)⟩
    · clear hS; intro g w hI
      obtain ⟨x, hS⟩ := hI
      refine then_n (hK6 _ _ ?_); clear hK6 K6
      refine wp_seq_k ?_; intro K28 hK28
      refine wlit ?_
      refine wl_v (x_assign ev_c) ?_
      refine wl_nil ?_
      refine then_n (hK28 _ _ ?_); clear hK28 K28
      refine wp_seq_k ?_; intro K29 hK29
      refine wp_seq_k ?_; intro K30 hK30
      refine wlit ?_
      refine wl_v (x_assign (ev_cN 0)) ?_
      refine wl_nil ?_
      refine then_n (hK30 _ _ ?_); clear hK30 K30
      refine wp_block ?_
      refine lp [8, 9, 33, 34, 35, 36, 37, 38, 39, 40, 41, 42, 43, 44, 45, 46, 47] (fun mz g w => ∃ (k : Nat), ∃ (z : Int), mz = n - k ∧ g 9 = .int .i64 (k : Int) ∧ g 8 = .int .i64 z ∧ St [] w0 [.blk g3_1 40 (cnV x), .blk g0_0 46 [.int .i64 way, .slice A n c, .int .u32 (a : Int), .int .u32 (b : Int)], .vw A (flat cnV l)] w ∧ (k ≤ n) ∧ (FoundI l k x z)) ?_ ?_
      · exact ⟨_, 0, -1, rfl, (by first | rfl | go_num | exact congrArg (Value.int _) (by first | omega | (simp; done) | (simp; omega))), (by first | rfl | go_num | exact congrArg (Value.int _) (by first | omega | (simp; done) | (simp; omega))), hS, (by omega), (by first | exact hz1 | exact .inl ⟨rfl, by rintro ⟨i, hi, _⟩; omega⟩)⟩
      · clear hS; intro mz g w hI
        obtain ⟨k, z, rfl, hs9, hs8, hS, hk, hz⟩ := hI
        refine fr_know (d := 9) hs9 ?_; clear hs9
        refine fr_know (d := 8) hs8 ?_; clear hs8
        refine wp_seq_k ?_; intro K31 hK31
        refine wp_seq_k ?_; intro K32 hK32
        refine wlit ?_
        refine wl_v (x_move (tmI rfl rfl)) ?_
        refine wl_v (x_fa 1 Try.underlying46 rfl rfl ts_30 (tmP rfl rfl)) ?_
        first
         | refine wl_v (x_load Try.underlying30 rfl (tmP rfl rfl) (cellB hS.ok 1 rfl rfl)) ?_
         | refine wl_v (x_load Try.underlying30 rfl (tmP rfl rfl) (cellB hS.ok 1 rfl (getm (by omega)))) ?_
        refine wl_v (x_len Try.underlying30 (tmS rfl rfl)) ?_
        refine wl_v (x_lss (tmI rfl rfl) (tmI rfl rfl)) ?_
        refine wl_nil ?_
        refine then_n (hK32 _ _ ?_); clear hK32 K32
        refine cnd (tm rfl) (fun hc2 => ?_) (fun hc2 => ?_)
        · try (exfalso; first | with_reducible exact absurd hc2 Bool.false_ne_true | with_reducible exact absurd hc2.symm Bool.false_ne_true | (simp only [nrm] at hc2; omega) | (simp at hc2; done))
          all_goals
           try simp only [nrm] at hc2
           obtain ⟨b4, o4, rfl⟩ := view_some hv (by rw [hfl]; omega)
           refine wp_skip ?_
           refine then_n (hK31 _ _ ?_); clear hK31 K31
           refine wp_seq_k ?_; intro K33 hK33
           refine wp_block ?_
           refine wp_seq_k ?_; intro K34 hK34
           refine rg_startk 0 hS mixed_ ?_
           clear hS; intro w hS
           refine rg_take 0 rfl rfl (by kernel_rfl) (by kernel_rfl) (by kernel_rfl) (want_0) (fun w hok => x_fa 1 Try.underlying46 rfl rfl ts_30 (tmP rfl rfl)) ?_
           first
            | refine rg_take 1 rfl rfl (by kernel_rfl) (by kernel_rfl) (by kernel_rfl) (want_0) (fun w hok => x_load Try.underlying30 rfl (tmP rfl rfl) (cellB hok 1 rfl rfl)) ?_
            | refine rg_take 1 rfl rfl (by kernel_rfl) (by kernel_rfl) (by kernel_rfl) (want_0) (fun w hok => x_load Try.underlying30 rfl (tmP rfl rfl) (cellB hok 1 rfl (getm (by omega)))) ?_
           refine rg_take 2 rfl rfl (by kernel_rfl) (by kernel_rfl) (by kernel_rfl) (want_0) (fun w hok => x_move (tmI rfl rfl)) ?_
           refine rg_take 3 rfl rfl (by kernel_rfl) (by kernel_rfl) (by kernel_rfl) (want_0) (fun w hok => x_ixs Try.underlying30 ts_40 (tmS rfl rfl) (tmI rfl rfl) (by omega)) ?_
           refine rg_take 4 rfl rfl (by kernel_rfl) (by kernel_rfl) (by kernel_rfl) (want_0) (fun w hok => x_loadA Try.underlying40 rfl (by exact ts_40) (tmP rfl rfl) (rangeVs hok 2 rfl (fun _ => rfl) (by omega))) ?_
           refine rg_take 5 rfl rfl (by kernel_rfl) (by kernel_rfl) (by kernel_rfl) (want_0) (fun w hok => x_loadA (cs := [_, _, _, _]) Try.underlying40 rfl ts_40 (tmP rfl rfl) (rangeB hok 0 rfl rfl)) ?_
           refine rg_take 6 rfl rfl (by kernel_rfl) (by kernel_rfl) (by kernel_rfl) (want_0) (fun w hok => x_Aeql (by kernel_rfl) (tmA rfl rfl) (tmA rfl rfl) (eqv_A Try.underlying40 (by kernel_rfl) (fe_cons rfl (pt_1 Try.underlying3 rfl rfl) (pt_1 Try.underlying3 rfl rfl) (eqv_i Try.underlying3) <| fe_cons rfl (pt_1 Try.underlying3 rfl rfl) (pt_1 Try.underlying3 rfl rfl) (eqv_i Try.underlying3) <| fe_cons rfl (pt_1 Try.underlying3 rfl rfl) (pt_1 Try.underlying3 rfl rfl) (eqv_i Try.underlying3) <| fe_cons rfl (pt_1 Try.underlying31 rfl rfl) (pt_1 Try.underlying31 rfl rfl) (eqv_i Try.underlying31) <| fe_nil))) ?_
           refine rg_done (oks_drop hS 0 rfl) (by kernel_rfl) ?_
           refine then_n (hK34 _ _ ?_); clear hK34 K34
           refine cnd (tm rfl) (fun hc3 => ?_) (fun hc3 => ?_)
           · try (exfalso; first | with_reducible exact absurd hc3 Bool.false_ne_true | with_reducible exact absurd hc3.symm Bool.false_ne_true | (simp only [nrm] at hc3; omega) | (simp at hc3; done))
             all_goals
              try simp only [nrm] at hc3
              have hz1 : FoundI l (k + 1) x (k : Int) := .inr ⟨k, rfl, by omega, (cn_iff _ _).1 hc3⟩
              refine wlit ?_
              refine wl_v (x_move (tmI rfl rfl)) ?_
              refine wl_v (x_assign (tmI rfl rfl)) ?_
              refine wl_nil ?_
              refine inb_n ?_
              refine then_n (hK33 _ _ ?_); clear hK33 K33
              refine wlit ?_
              refine wl_v (x_move (tmI rfl rfl)) ?_
              first
               | refine wl_v (x_addN (tmI rfl rfl) (ev_cN 1) (fit_i64 (by omega))) ?_
               | refine wl_v (x_addI (tmI rfl rfl) (ev_cN 1) (IntWalk.i64_in _ (by omega))) ?_
               | refine wl_v (x_add (tmI rfl rfl) (ev_cN 1)) ?_
              refine wl_v (x_assign (tmI rfl rfl)) ?_
              refine wl_nil ?_
              first
               | exact then_n ⟨_, _, rfl, (by show _ < _; omega), (by repeat (first | exact agree_self | exact agree_refl | refine agree_upd rfl ?_ | refine agree_mix rfl ?_)), k + 1, _, rfl, (by first | rfl | go_num | exact congrArg (Value.int _) (by first | omega | (simp; done) | (simp; omega))), (by first | rfl | go_num | exact congrArg (Value.int _) (by first | omega | (simp; done) | (simp; omega))), hS, (by omega), (by first | exact hz1 | exact .inl ⟨rfl, by rintro ⟨i, hi, _⟩; omega⟩)⟩
               | exact then_n ⟨_, _, rfl, (by show _ < _; omega), (by repeat (first | exact agree_self | exact agree_refl | refine agree_upd rfl ?_ | refine agree_mix rfl ?_)), k + 1, _, rfl, (by first | rfl | go_num | exact congrArg (Value.int _) (by first | omega | (simp; done) | (simp; omega))), (by first | rfl | go_num | exact congrArg (Value.int _) (by first | omega | (simp; done) | (simp; omega))), hS, (by omega), (by first | exact hz1 | exact .inl ⟨rfl, by rintro ⟨i, hi, _⟩; omega⟩)⟩
           try (exfalso; first | with_reducible exact absurd hc3 Bool.false_ne_true | with_reducible exact absurd hc3.symm Bool.false_ne_true | (simp only [nrm] at hc3; omega) | (simp at hc3; done))
           all_goals
            try simp only [nrm] at hc3
            have hz1 : FoundI l (k + 1) x z := found_step hz (fun h => by
              rw [(cn_iff _ _).2 h] at hc3
              cases hc3)
            refine wp_skip ?_
            refine inb_n ?_
            refine then_n (hK33 _ _ ?_); clear hK33 K33
            refine wlit ?_
            refine wl_v (x_move (tmI rfl rfl)) ?_
            first
             | refine wl_v (x_addN (tmI rfl rfl) (ev_cN 1) (fit_i64 (by omega))) ?_
             | refine wl_v (x_addI (tmI rfl rfl) (ev_cN 1) (IntWalk.i64_in _ (by omega))) ?_
             | refine wl_v (x_add (tmI rfl rfl) (ev_cN 1)) ?_
            refine wl_v (x_assign (tmI rfl rfl)) ?_
            refine wl_nil ?_
            first
             | exact then_n ⟨_, _, rfl, (by show _ < _; omega), (by repeat (first | exact agree_self | exact agree_refl | refine agree_upd rfl ?_ | refine agree_mix rfl ?_)), k + 1, _, rfl, (by first | rfl | go_num | exact congrArg (Value.int _) (by first | omega | (simp; done) | (simp; omega))), (by first | rfl | go_num | exact congrArg (Value.int _) (by first | omega | (simp; done) | (simp; omega))), hS, (by omega), (by first | exact hz1 | exact .inl ⟨rfl, by rintro ⟨i, hi, _⟩; omega⟩)⟩
             | exact then_n ⟨_, _, rfl, (by show _ < _; omega), (by repeat (first | exact agree_self | exact agree_refl | refine agree_upd rfl ?_ | refine agree_mix rfl ?_)), k + 1, _, rfl, (by first | rfl | go_num | exact congrArg (Value.int _) (by first | omega | (simp; done) | (simp; omega))), (by first | rfl | go_num | exact congrArg (Value.int _) (by first | omega | (simp; done) | (simp; omega))), hS, (by omega), (by first | exact hz1 | exact .inl ⟨rfl, by rintro ⟨i, hi, _⟩; omega⟩)⟩
        try (exfalso; first | with_reducible exact absurd hc2 Bool.false_ne_true | with_reducible exact absurd hc2.symm Bool.false_ne_true | (simp only [nrm] at hc2; omega) | (simp at hc2; done))
        all_goals
         try simp only [nrm] at hc2
         refine wp_exit ?_
         refine then_x ?_; clear hK31 K31
         refine then_x ?_
         refine inb_x ?_
         refine then_n (hK29 _ _ ?_); clear hK29 K29
         refine wp_seq_k ?_; intro K35 hK35
         obtain rfl : k = n := by omega
         have hzi := found_iff hz
         refine wlit ?_
         refine wl_v (x_move (tmI rfl rfl)) ?_
         refine wl_v (x_geq (tmI rfl rfl) (ev_cN 0)) ?_
         refine wl_v (x_assign (tmB rfl rfl)) ?_
         refine wl_nil ?_
         refine then_n (hK35 _ _ ?_); clear hK35 K35
         refine wp_seq_k ?_; intro K36 hK36
         refine wp_seq_k ?_; intro K37 hK37
         refine wlit ?_
         refine wl_v (x_fa 0 Try.underlying46 rfl rfl ts_3 (tmP rfl rfl)) ?_
         first
          | refine wl_v (x_load Try.underlying3 rfl (tmP rfl rfl) (cellB hS.ok 1 rfl rfl)) ?_
          | refine wl_v (x_load Try.underlying3 rfl (tmP rfl rfl) (cellB hS.ok 1 rfl (getm (by omega)))) ?_
         refine wl_nil ?_
         refine then_n (hK37 _ _ ?_); clear hK37 K37
         refine wp_block ?_
         refine wp_seq_k ?_; intro K38 hK38
         refine wlit ?_
         refine wl_v (x_eql (tmI rfl rfl) (ev_cN 1)) ?_
         refine wl_v (x_assign (tmB rfl rfl)) ?_
         refine wl_nil ?_
         refine then_n (hK38 _ _ ?_); clear hK38 K38
         refine cutc [10, 11, 12, 54, 55, 56, 57, 58, 59, 60, 61, 62, 63, 64, 65, 66, 67, 68, 69, 70, 71, 72, 73, 74, 75, 76, 77, 78, 79, 80, 81, 82, 83] (fun g w => ∃ (W : Bool), g 10 = .bool W ∧ St [] w0 [.blk g3_1 40 (cnV x), .blk g0_0 46 [.int .i64 way, .slice A k c, .int .u32 (a : Int), .int .u32 (b : Int)], .vw A (flat cnV l)] w ∧ (W = true ↔ FitsP way l k a b x)) ?_ ?_
         · skip
           refine cnd (tm rfl) (fun hc4 => ?_) (fun hc4 => ?_)
           · try (exfalso; first | with_reducible exact absurd hc4 Bool.false_ne_true | with_reducible exact absurd hc4.symm Bool.false_ne_true | (simp only [nrm] at hc4; omega) | (simp at hc4; done))
             all_goals
              try simp only [nrm] at hc4
              refine wp_skip ?_
              exact then_n ⟨_, rfl, (by repeat (first | exact agree_self | exact agree_refl | refine agree_upd rfl ?_ | refine agree_mix rfl ?_)), _, (by first | rfl | go_num | exact congrArg (Value.int _) (by first | omega | (simp; done) | (simp; omega))), (hS.pick [0, 1, 2] rfl rfl), (by first | (have hw : way = 1 := by simpa using hc4); subst hw; rw [show FitsP 1 l k a b x ↔ InL l k x by simp [FitsP], ← hzi]; simp; done | (have hw : way = 2 := by simpa using hc5); subst hw; rw [show FitsP 2 l k a b x ↔ InL l k x ∧ 0 < x.weight by simp [FitsP], ← hzi]; (first | (simp at hg17_1; simp [hg17_1]; done) | (refine ⟨fun h => ?_, fun h => absurd h.1 (by omega)⟩; first | (simp at h; done) | (simp at h; omega))) | (have hw : way = 3 := by simpa using hc6); rw [pick_fits hA hz hy (.inl hw)]; (first | (simp at hg21_1; simp [hg21_1]; done) | (refine ⟨fun h => ?_, fun h => absurd h.1 (by omega)⟩; first | (simp at h; done) | (simp at h; omega))) | (have hw : way = 4 := by simpa using hc7); rw [pick_fits hA hz hy (.inr hw)]; (first | (simp at hg21_1; simp [hg21_1]; done) | (refine ⟨fun h => ?_, fun h => absurd h.1 (by omega)⟩; first | (simp at h; done) | (simp at h; omega))) | (simp at hc4 hc5 hc6 hc7; simp [FitsP, hc4, hc5, hc6, hc7]; done))⟩
           try (exfalso; first | with_reducible exact absurd hc4 Bool.false_ne_true | with_reducible exact absurd hc4.symm Bool.false_ne_true | (simp only [nrm] at hc4; omega) | (simp at hc4; done))
           all_goals
            try simp only [nrm] at hc4
            refine wp_seq_k ?_; intro K40 hK40
            refine wlit ?_
            refine wl_v (x_eql (tmI rfl rfl) (ev_cN 2)) ?_
            refine wl_v (x_assign (tmB rfl rfl)) ?_
            refine wl_nil ?_
            refine then_n (hK40 _ _ ?_); clear hK40 K40
            refine cnd (tm rfl) (fun hc5 => ?_) (fun hc5 => ?_)
            · try (exfalso; first | with_reducible exact absurd hc5 Bool.false_ne_true | with_reducible exact absurd hc5.symm Bool.false_ne_true | (simp only [nrm] at hc5; omega) | (simp at hc5; done))
              all_goals
               try simp only [nrm] at hc5
               refine wlit ?_
               refine wl_v (x_move (tmB rfl rfl)) ?_
               refine wl_v (x_move (tmB rfl rfl)) ?_
               refine gs_wl (tm (t := 57) rfl) (fun hg17_1 => ?_) (fun hg17_1 => ?_)
               · have hg17_1' := hg17_1; (try simp only [nrm] at hg17_1'); try (exfalso; first | with_reducible exact absurd hg17_1 Bool.false_ne_true | with_reducible exact absurd hg17_1.symm Bool.false_ne_true | omega | (simp at hg17_1; done))
                 all_goals
                  refine wl_gv (want_y rfl rfl rfl rfl (by rw [hg17_1]; rfl)) (x_fa 2 Try.underlying40 rfl rfl ts_3 (tmP rfl rfl)) ?_
                  first
                   | refine wl_gv (want_y rfl rfl rfl rfl (by rw [hg17_1]; rfl)) (x_load Try.underlying3 rfl (tmP rfl rfl) (cellB hS.ok 0 rfl rfl)) ?_
                   | refine wl_gv (want_y rfl rfl rfl rfl (by rw [hg17_1]; rfl)) (x_load Try.underlying3 rfl (tmP rfl rfl) (cellB hS.ok 0 rfl (getm (by omega)))) ?_
                  refine wl_gv (want_y rfl rfl rfl rfl (by rw [hg17_1]; rfl)) (x_gtr (tmI rfl rfl) (ev_cN 0)) ?_
                  refine wl_v (x_pickT (tmB rfl rfl) hg17_1 (tmB rfl rfl)) ?_
                  refine wl_v (x_assign (tmB rfl rfl)) ?_
                  refine wl_nil ?_
                  exact then_n ⟨_, rfl, (by repeat (first | exact agree_self | exact agree_refl | refine agree_upd rfl ?_ | refine agree_mix rfl ?_)), _, (by first | rfl | go_num | exact congrArg (Value.int _) (by first | omega | (simp; done) | (simp; omega))), (hS.pick [0, 1, 2] rfl rfl), (by first | (have hw : way = 1 := by simpa using hc4); subst hw; rw [show FitsP 1 l k a b x ↔ InL l k x by simp [FitsP], ← hzi]; simp; done | (have hw : way = 2 := by simpa using hc5); subst hw; rw [show FitsP 2 l k a b x ↔ InL l k x ∧ 0 < x.weight by simp [FitsP], ← hzi]; (first | (simp at hg17_1; simp [hg17_1]; done) | (refine ⟨fun h => ?_, fun h => absurd h.1 (by omega)⟩; first | (simp at h; done) | (simp at h; omega))) | (have hw : way = 3 := by simpa using hc6); rw [pick_fits hA hz hy (.inl hw)]; (first | (simp at hg21_1; simp [hg21_1]; done) | (refine ⟨fun h => ?_, fun h => absurd h.1 (by omega)⟩; first | (simp at h; done) | (simp at h; omega))) | (have hw : way = 4 := by simpa using hc7); rw [pick_fits hA hz hy (.inr hw)]; (first | (simp at hg21_1; simp [hg21_1]; done) | (refine ⟨fun h => ?_, fun h => absurd h.1 (by omega)⟩; first | (simp at h; done) | (simp at h; omega))) | (simp at hc4 hc5 hc6 hc7; simp [FitsP, hc4, hc5, hc6, hc7]; done))⟩
               have hg17_1' := hg17_1; (try simp only [nrm] at hg17_1'); try (exfalso; first | with_reducible exact absurd hg17_1 Bool.false_ne_true | with_reducible exact absurd hg17_1.symm Bool.false_ne_true | omega | (simp at hg17_1; done))
               all_goals
                refine wl_s rfl (want_n rfl rfl rfl rfl (by rw [hg17_1]; rfl)) ?_
                refine wl_s rfl (want_n rfl rfl rfl rfl (by rw [hg17_1]; rfl)) ?_
                refine wl_s rfl (want_n rfl rfl rfl rfl (by rw [hg17_1]; rfl)) ?_
                refine wl_v (x_pickF (tmB rfl rfl) hg17_1 ev_c) ?_
                refine wl_v (x_assign (tmB rfl rfl)) ?_
                refine wl_nil ?_
                exact then_n ⟨_, rfl, (by repeat (first | exact agree_self | exact agree_refl | refine agree_upd rfl ?_ | refine agree_mix rfl ?_)), _, (by first | rfl | go_num | exact congrArg (Value.int _) (by first | omega | (simp; done) | (simp; omega))), (hS.pick [0, 1, 2] rfl rfl), (by first | (have hw : way = 1 := by simpa using hc4); subst hw; rw [show FitsP 1 l k a b x ↔ InL l k x by simp [FitsP], ← hzi]; simp; done | (have hw : way = 2 := by simpa using hc5); subst hw; rw [show FitsP 2 l k a b x ↔ InL l k x ∧ 0 < x.weight by simp [FitsP], ← hzi]; (first | (simp at hg17_1; simp [hg17_1]; done) | (refine ⟨fun h => ?_, fun h => absurd h.1 (by omega)⟩; first | (simp at h; done) | (simp at h; omega))) | (have hw : way = 3 := by simpa using hc6); rw [pick_fits hA hz hy (.inl hw)]; (first | (simp at hg21_1; simp [hg21_1]; done) | (refine ⟨fun h => ?_, fun h => absurd h.1 (by omega)⟩; first | (simp at h; done) | (simp at h; omega))) | (have hw : way = 4 := by simpa using hc7); rw [pick_fits hA hz hy (.inr hw)]; (first | (simp at hg21_1; simp [hg21_1]; done) | (refine ⟨fun h => ?_, fun h => absurd h.1 (by omega)⟩; first | (simp at h; done) | (simp at h; omega))) | (simp at hc4 hc5 hc6 hc7; simp [FitsP, hc4, hc5, hc6, hc7]; done))⟩
            try (exfalso; first | with_reducible exact absurd hc5 Bool.false_ne_true | with_reducible exact absurd hc5.symm Bool.false_ne_true | (simp only [nrm] at hc5; omega) | (simp at hc5; done))
            all_goals
             try simp only [nrm] at hc5
             refine wp_seq_k ?_; intro K41 hK41
             refine wp_seq_k ?_; intro K42 hK42
             refine wlit ?_
             refine wl_v (x_eql (tmI rfl rfl) (ev_cN 3)) ?_
             refine wl_v (x_assign (tmB rfl rfl)) ?_
             refine wl_nil ?_
             refine then_n (hK42 _ _ ?_); clear hK42 K42
             refine cnd (tm rfl) (fun hc6 => ?_) (fun hc6 => ?_)
             · try (exfalso; first | with_reducible exact absurd hc6 Bool.false_ne_true | with_reducible exact absurd hc6.symm Bool.false_ne_true | (simp only [nrm] at hc6; omega) | (simp at hc6; done))
               all_goals
                try simp only [nrm] at hc6
                refine wp_skip ?_
                refine then_n (hK41 _ _ ?_); clear hK41 K41
                refine cnd (tm rfl) (fun hc7 => ?_) (fun hc7 => ?_)
                · try (exfalso; first | with_reducible exact absurd hc7 Bool.false_ne_true | with_reducible exact absurd hc7.symm Bool.false_ne_true | (simp only [nrm] at hc7; omega) | (simp at hc7; done))
                  all_goals
                   try simp only [nrm] at hc7
                   refine wp_seq_k ?_; intro K43 hK43
                   refine wlit ?_
                   refine wl_v (x_build (bc_skip (.int .i64 0) <| bc_skip (.slice none 0 0) <| bc_nil) (by kernel_rfl)) ?_
                   refine wl_v (x_fa 0 Try.underlying46 rfl rfl ts_3 (tmP rfl rfl)) ?_
                   first
                    | refine wl_v (x_load Try.underlying3 rfl (tmP rfl rfl) (cellB hS.ok 1 rfl rfl)) ?_
                    | refine wl_v (x_load Try.underlying3 rfl (tmP rfl rfl) (cellB hS.ok 1 rfl (getm (by omega)))) ?_
                   refine wl_v (x_fa 1 Try.underlying46 rfl rfl ts_30 (tmP rfl rfl)) ?_
                   first
                    | refine wl_v (x_load Try.underlying30 rfl (tmP rfl rfl) (cellB hS.ok 1 rfl rfl)) ?_
                    | refine wl_v (x_load Try.underlying30 rfl (tmP rfl rfl) (cellB hS.ok 1 rfl (getm (by omega)))) ?_
                   refine wl_v (x_fa 2 Try.underlying46 rfl rfl ts_31 (tmP rfl rfl)) ?_
                   first
                    | refine wl_v (x_load Try.underlying31 rfl (tmP rfl rfl) (cellB hS.ok 1 rfl rfl)) ?_
                    | refine wl_v (x_load Try.underlying31 rfl (tmP rfl rfl) (cellB hS.ok 1 rfl (getm (by omega)))) ?_
                   refine wl_v (x_fa 3 Try.underlying46 rfl rfl ts_31 (tmP rfl rfl)) ?_
                   first
                    | refine wl_v (x_load Try.underlying31 rfl (tmP rfl rfl) (cellB hS.ok 1 rfl rfl)) ?_
                    | refine wl_v (x_load Try.underlying31 rfl (tmP rfl rfl) (cellB hS.ok 1 rfl (getm (by omega)))) ?_
                   refine wl_e rfl ?_; intro K hK
                   refine ow_call Try.func14 rfl rfl (evs_cons (tmA rfl rfl) <| evs_cons (tmI rfl rfl) <| evs_cons (tmS rfl rfl) <| evs_cons (tmI rfl rfl) <| evs_cons (tmI rfl rfl) <| evs_nil) (choose34_c way k A c l a b _ (viewV hS.ok 2 rfl) hl (by omega) hR (by first | (left; simpa using hc6) | (right; simpa using hc7)) ha hb) ?_
                   rintro e w ⟨y, rfl, hy, hk⟩
                   refine ⟨_, rfl, ?_⟩
                   replace hS := hS.kept hk
                   clear hk
                   refine hK _ _ ?_; clear hK K
                   refine wl_v (x_move (tmT rfl rfl)) ?_
                   refine wl_v (x_ext (tmT rfl rfl) rfl) ?_
                   refine wl_v (x_ext (tmT rfl rfl) rfl) ?_
                   refine wl_e rfl ?_; intro K hK
                   refine ow_alloc hS tz_48 rfl ?_
                   clear hS; intro g20_13 w hg20_13 hS
                   refine hK _ _ ?_; clear hK K
                   refine wl_e rfl ?_; intro K hK
                   refine ow_storeA hS 0 rfl ts_48 (tmP rfl rfl) (tmA rfl rfl) rfl rfl rfl ?_
                   clear hS; intro w hS
                   refine hK _ _ ?_; clear hK K
                   refine wl_v (x_assign (tmI rfl rfl)) ?_
                   refine wl_nil ?_
                   refine then_n (hK43 _ _ ?_); clear hK43 K43
                   refine wlit ?_
                   refine wl_v (x_move (tmB rfl rfl)) ?_
                   refine wl_v (x_move (tmB rfl rfl)) ?_
                   refine gs_wl (tm (t := 79) rfl) (fun hg21_1 => ?_) (fun hg21_1 => ?_)
                   · have hg21_1' := hg21_1; (try simp only [nrm] at hg21_1'); try (exfalso; first | with_reducible exact absurd hg21_1 Bool.false_ne_true | with_reducible exact absurd hg21_1.symm Bool.false_ne_true | omega | (simp at hg21_1; done))
                     all_goals
                      refine wl_gv (want_y rfl rfl rfl rfl (by rw [hg21_1]; rfl)) (x_move (tmI rfl rfl)) ?_
                      refine wl_gv (want_y rfl rfl rfl rfl (by rw [hg21_1]; rfl)) (x_move (tmI rfl rfl)) ?_
                      refine wl_gv (want_y rfl rfl rfl rfl (by rw [hg21_1]; rfl)) (x_eql (tmI rfl rfl) (tmI rfl rfl)) ?_
                      refine wl_v (x_pickT (tmB rfl rfl) hg21_1 (tmB rfl rfl)) ?_
                      refine wl_v (x_assign (tmB rfl rfl)) ?_
                      refine wl_nil ?_
                      exact then_n ⟨_, rfl, (by repeat (first | exact agree_self | exact agree_refl | refine agree_upd rfl ?_ | refine agree_mix rfl ?_)), _, (by first | rfl | go_num | exact congrArg (Value.int _) (by first | omega | (simp; done) | (simp; omega))), (hS.pick [1, 2, 3] rfl rfl), (by first | (have hw : way = 1 := by simpa using hc4); subst hw; rw [show FitsP 1 l k a b x ↔ InL l k x by simp [FitsP], ← hzi]; simp; done | (have hw : way = 2 := by simpa using hc5); subst hw; rw [show FitsP 2 l k a b x ↔ InL l k x ∧ 0 < x.weight by simp [FitsP], ← hzi]; (first | (simp at hg17_1; simp [hg17_1]; done) | (refine ⟨fun h => ?_, fun h => absurd h.1 (by omega)⟩; first | (simp at h; done) | (simp at h; omega))) | (have hw : way = 3 := by simpa using hc6); rw [pick_fits hA hz hy (.inl hw)]; (first | (simp at hg21_1; simp [hg21_1]; done) | (refine ⟨fun h => ?_, fun h => absurd h.1 (by omega)⟩; first | (simp at h; done) | (simp at h; omega))) | (have hw : way = 4 := by simpa using hc7); rw [pick_fits hA hz hy (.inr hw)]; (first | (simp at hg21_1; simp [hg21_1]; done) | (refine ⟨fun h => ?_, fun h => absurd h.1 (by omega)⟩; first | (simp at h; done) | (simp at h; omega))) | (simp at hc4 hc5 hc6 hc7; simp [FitsP, hc4, hc5, hc6, hc7]; done))⟩
                   have hg21_1' := hg21_1; (try simp only [nrm] at hg21_1'); try (exfalso; first | with_reducible exact absurd hg21_1 Bool.false_ne_true | with_reducible exact absurd hg21_1.symm Bool.false_ne_true | omega | (simp at hg21_1; done))
                   all_goals
                    refine wl_s rfl (want_n rfl rfl rfl rfl (by rw [hg21_1]; rfl)) ?_
                    refine wl_s rfl (want_n rfl rfl rfl rfl (by rw [hg21_1]; rfl)) ?_
                    refine wl_s rfl (want_n rfl rfl rfl rfl (by rw [hg21_1]; rfl)) ?_
                    refine wl_v (x_pickF (tmB rfl rfl) hg21_1 ev_c) ?_
                    refine wl_v (x_assign (tmB rfl rfl)) ?_
                    refine wl_nil ?_
                    exact then_n ⟨_, rfl, (by repeat (first | exact agree_self | exact agree_refl | refine agree_upd rfl ?_ | refine agree_mix rfl ?_)), _, (by first | rfl | go_num | exact congrArg (Value.int _) (by first | omega | (simp; done) | (simp; omega))), (hS.pick [1, 2, 3] rfl rfl), (by first | (have hw : way = 1 := by simpa using hc4); subst hw; rw [show FitsP 1 l k a b x ↔ InL l k x by simp [FitsP], ← hzi]; simp; done | (have hw : way = 2 := by simpa using hc5); subst hw; rw [show FitsP 2 l k a b x ↔ InL l k x ∧ 0 < x.weight by simp [FitsP], ← hzi]; (first | (simp at hg17_1; simp [hg17_1]; done) | (refine ⟨fun h => ?_, fun h => absurd h.1 (by omega)⟩; first | (simp at h; done) | (simp at h; omega))) | (have hw : way = 3 := by simpa using hc6); rw [pick_fits hA hz hy (.inl hw)]; (first | (simp at hg21_1; simp [hg21_1]; done) | (refine ⟨fun h => ?_, fun h => absurd h.1 (by omega)⟩; first | (simp at h; done) | (simp at h; omega))) | (have hw : way = 4 := by simpa using hc7); rw [pick_fits hA hz hy (.inr hw)]; (first | (simp at hg21_1; simp [hg21_1]; done) | (refine ⟨fun h => ?_, fun h => absurd h.1 (by omega)⟩; first | (simp at h; done) | (simp at h; omega))) | (simp at hc4 hc5 hc6 hc7; simp [FitsP, hc4, hc5, hc6, hc7]; done))⟩
                try (exfalso; first | with_reducible exact absurd hc7 Bool.false_ne_true | with_reducible exact absurd hc7.symm Bool.false_ne_true | (simp only [nrm] at hc7; omega) | (simp at hc7; done))
                all_goals
                 try simp only [nrm] at hc7
                 refine wlit ?_
                 refine wl_v (x_assign ev_c) ?_
                 refine wl_nil ?_
                 exact then_n ⟨_, rfl, (by repeat (first | exact agree_self | exact agree_refl | refine agree_upd rfl ?_ | refine agree_mix rfl ?_)), _, (by first | rfl | go_num | exact congrArg (Value.int _) (by first | omega | (simp; done) | (simp; omega))), (hS.pick [0, 1, 2] rfl rfl), (by first | (have hw : way = 1 := by simpa using hc4); subst hw; rw [show FitsP 1 l k a b x ↔ InL l k x by simp [FitsP], ← hzi]; simp; done | (have hw : way = 2 := by simpa using hc5); subst hw; rw [show FitsP 2 l k a b x ↔ InL l k x ∧ 0 < x.weight by simp [FitsP], ← hzi]; (first | (simp at hg17_1; simp [hg17_1]; done) | (refine ⟨fun h => ?_, fun h => absurd h.1 (by omega)⟩; first | (simp at h; done) | (simp at h; omega))) | (have hw : way = 3 := by simpa using hc6); rw [pick_fits hA hz hy (.inl hw)]; (first | (simp at hg21_1; simp [hg21_1]; done) | (refine ⟨fun h => ?_, fun h => absurd h.1 (by omega)⟩; first | (simp at h; done) | (simp at h; omega))) | (have hw : way = 4 := by simpa using hc7); rw [pick_fits hA hz hy (.inr hw)]; (first | (simp at hg21_1; simp [hg21_1]; done) | (refine ⟨fun h => ?_, fun h => absurd h.1 (by omega)⟩; first | (simp at h; done) | (simp at h; omega))) | (simp at hc4 hc5 hc6 hc7; simp [FitsP, hc4, hc5, hc6, hc7]; done))⟩
             try (exfalso; first | with_reducible exact absurd hc6 Bool.false_ne_true | with_reducible exact absurd hc6.symm Bool.false_ne_true | (simp only [nrm] at hc6; omega) | (simp at hc6; done))
             all_goals
              try simp only [nrm] at hc6
              refine wlit ?_
              refine wl_v (x_eql (tmI rfl rfl) (ev_cN 4)) ?_
              refine wl_v (x_assign (tmB rfl rfl)) ?_
              refine wl_nil ?_
              refine then_n (hK41 _ _ ?_); clear hK41 K41
              refine cnd (tm rfl) (fun hc7 => ?_) (fun hc7 => ?_)
              · try (exfalso; first | with_reducible exact absurd hc7 Bool.false_ne_true | with_reducible exact absurd hc7.symm Bool.false_ne_true | (simp only [nrm] at hc7; omega) | (simp at hc7; done))
                all_goals
                 try simp only [nrm] at hc7
                 refine wp_seq_k ?_; intro K44 hK44
                 refine wlit ?_
                 refine wl_v (x_build (bc_skip (.int .i64 0) <| bc_skip (.slice none 0 0) <| bc_nil) (by kernel_rfl)) ?_
                 refine wl_v (x_fa 0 Try.underlying46 rfl rfl ts_3 (tmP rfl rfl)) ?_
                 first
                  | refine wl_v (x_load Try.underlying3 rfl (tmP rfl rfl) (cellB hS.ok 1 rfl rfl)) ?_
                  | refine wl_v (x_load Try.underlying3 rfl (tmP rfl rfl) (cellB hS.ok 1 rfl (getm (by omega)))) ?_
                 refine wl_v (x_fa 1 Try.underlying46 rfl rfl ts_30 (tmP rfl rfl)) ?_
                 first
                  | refine wl_v (x_load Try.underlying30 rfl (tmP rfl rfl) (cellB hS.ok 1 rfl rfl)) ?_
                  | refine wl_v (x_load Try.underlying30 rfl (tmP rfl rfl) (cellB hS.ok 1 rfl (getm (by omega)))) ?_
                 refine wl_v (x_fa 2 Try.underlying46 rfl rfl ts_31 (tmP rfl rfl)) ?_
                 first
                  | refine wl_v (x_load Try.underlying31 rfl (tmP rfl rfl) (cellB hS.ok 1 rfl rfl)) ?_
                  | refine wl_v (x_load Try.underlying31 rfl (tmP rfl rfl) (cellB hS.ok 1 rfl (getm (by omega)))) ?_
                 refine wl_v (x_fa 3 Try.underlying46 rfl rfl ts_31 (tmP rfl rfl)) ?_
                 first
                  | refine wl_v (x_load Try.underlying31 rfl (tmP rfl rfl) (cellB hS.ok 1 rfl rfl)) ?_
                  | refine wl_v (x_load Try.underlying31 rfl (tmP rfl rfl) (cellB hS.ok 1 rfl (getm (by omega)))) ?_
                 refine wl_e rfl ?_; intro K hK
                 refine ow_call Try.func14 rfl rfl (evs_cons (tmA rfl rfl) <| evs_cons (tmI rfl rfl) <| evs_cons (tmS rfl rfl) <| evs_cons (tmI rfl rfl) <| evs_cons (tmI rfl rfl) <| evs_nil) (choose34_c way k A c l a b _ (viewV hS.ok 2 rfl) hl (by omega) hR (by first | (left; simpa using hc6) | (right; simpa using hc7)) ha hb) ?_
                 rintro e w ⟨y, rfl, hy, hk⟩
                 refine ⟨_, rfl, ?_⟩
                 replace hS := hS.kept hk
                 clear hk
                 refine hK _ _ ?_; clear hK K
                 refine wl_v (x_move (tmT rfl rfl)) ?_
                 refine wl_v (x_ext (tmT rfl rfl) rfl) ?_
                 refine wl_v (x_ext (tmT rfl rfl) rfl) ?_
                 refine wl_e rfl ?_; intro K hK
                 refine ow_alloc hS tz_48 rfl ?_
                 clear hS; intro g20_13 w hg20_13 hS
                 refine hK _ _ ?_; clear hK K
                 refine wl_e rfl ?_; intro K hK
                 refine ow_storeA hS 0 rfl ts_48 (tmP rfl rfl) (tmA rfl rfl) rfl rfl rfl ?_
                 clear hS; intro w hS
                 refine hK _ _ ?_; clear hK K
                 refine wl_v (x_assign (tmI rfl rfl)) ?_
                 refine wl_nil ?_
                 refine then_n (hK44 _ _ ?_); clear hK44 K44
                 refine wlit ?_
                 refine wl_v (x_move (tmB rfl rfl)) ?_
                 refine wl_v (x_move (tmB rfl rfl)) ?_
                 refine gs_wl (tm (t := 79) rfl) (fun hg21_1 => ?_) (fun hg21_1 => ?_)
                 · have hg21_1' := hg21_1; (try simp only [nrm] at hg21_1'); try (exfalso; first | with_reducible exact absurd hg21_1 Bool.false_ne_true | with_reducible exact absurd hg21_1.symm Bool.false_ne_true | omega | (simp at hg21_1; done))
                   all_goals
                    refine wl_gv (want_y rfl rfl rfl rfl (by rw [hg21_1]; rfl)) (x_move (tmI rfl rfl)) ?_
                    refine wl_gv (want_y rfl rfl rfl rfl (by rw [hg21_1]; rfl)) (x_move (tmI rfl rfl)) ?_
                    refine wl_gv (want_y rfl rfl rfl rfl (by rw [hg21_1]; rfl)) (x_eql (tmI rfl rfl) (tmI rfl rfl)) ?_
                    refine wl_v (x_pickT (tmB rfl rfl) hg21_1 (tmB rfl rfl)) ?_
                    refine wl_v (x_assign (tmB rfl rfl)) ?_
                    refine wl_nil ?_
                    exact then_n ⟨_, rfl, (by repeat (first | exact agree_self | exact agree_refl | refine agree_upd rfl ?_ | refine agree_mix rfl ?_)), _, (by first | rfl | go_num | exact congrArg (Value.int _) (by first | omega | (simp; done) | (simp; omega))), (hS.pick [1, 2, 3] rfl rfl), (by first | (have hw : way = 1 := by simpa using hc4); subst hw; rw [show FitsP 1 l k a b x ↔ InL l k x by simp [FitsP], ← hzi]; simp; done | (have hw : way = 2 := by simpa using hc5); subst hw; rw [show FitsP 2 l k a b x ↔ InL l k x ∧ 0 < x.weight by simp [FitsP], ← hzi]; (first | (simp at hg17_1; simp [hg17_1]; done) | (refine ⟨fun h => ?_, fun h => absurd h.1 (by omega)⟩; first | (simp at h; done) | (simp at h; omega))) | (have hw : way = 3 := by simpa using hc6); rw [pick_fits hA hz hy (.inl hw)]; (first | (simp at hg21_1; simp [hg21_1]; done) | (refine ⟨fun h => ?_, fun h => absurd h.1 (by omega)⟩; first | (simp at h; done) | (simp at h; omega))) | (have hw : way = 4 := by simpa using hc7); rw [pick_fits hA hz hy (.inr hw)]; (first | (simp at hg21_1; simp [hg21_1]; done) | (refine ⟨fun h => ?_, fun h => absurd h.1 (by omega)⟩; first | (simp at h; done) | (simp at h; omega))) | (simp at hc4 hc5 hc6 hc7; simp [FitsP, hc4, hc5, hc6, hc7]; done))⟩
                 have hg21_1' := hg21_1; (try simp only [nrm] at hg21_1'); try (exfalso; first | with_reducible exact absurd hg21_1 Bool.false_ne_true | with_reducible exact absurd hg21_1.symm Bool.false_ne_true | omega | (simp at hg21_1; done))
                 all_goals
                  refine wl_s rfl (want_n rfl rfl rfl rfl (by rw [hg21_1]; rfl)) ?_
                  refine wl_s rfl (want_n rfl rfl rfl rfl (by rw [hg21_1]; rfl)) ?_
                  refine wl_s rfl (want_n rfl rfl rfl rfl (by rw [hg21_1]; rfl)) ?_
                  refine wl_v (x_pickF (tmB rfl rfl) hg21_1 ev_c) ?_
                  refine wl_v (x_assign (tmB rfl rfl)) ?_
                  refine wl_nil ?_
                  exact then_n ⟨_, rfl, (by repeat (first | exact agree_self | exact agree_refl | refine agree_upd rfl ?_ | refine agree_mix rfl ?_)), _, (by first | rfl | go_num | exact congrArg (Value.int _) (by first | omega | (simp; done) | (simp; omega))), (hS.pick [1, 2, 3] rfl rfl), (by first | (have hw : way = 1 := by simpa using hc4); subst hw; rw [show FitsP 1 l k a b x ↔ InL l k x by simp [FitsP], ← hzi]; simp; done | (have hw : way = 2 := by simpa using hc5); subst hw; rw [show FitsP 2 l k a b x ↔ InL l k x ∧ 0 < x.weight by simp [FitsP], ← hzi]; (first | (simp at hg17_1; simp [hg17_1]; done) | (refine ⟨fun h => ?_, fun h => absurd h.1 (by omega)⟩; first | (simp at h; done) | (simp at h; omega))) | (have hw : way = 3 := by simpa using hc6); rw [pick_fits hA hz hy (.inl hw)]; (first | (simp at hg21_1; simp [hg21_1]; done) | (refine ⟨fun h => ?_, fun h => absurd h.1 (by omega)⟩; first | (simp at h; done) | (simp at h; omega))) | (have hw : way = 4 := by simpa using hc7); rw [pick_fits hA hz hy (.inr hw)]; (first | (simp at hg21_1; simp [hg21_1]; done) | (refine ⟨fun h => ?_, fun h => absurd h.1 (by omega)⟩; first | (simp at h; done) | (simp at h; omega))) | (simp at hc4 hc5 hc6 hc7; simp [FitsP, hc4, hc5, hc6, hc7]; done))⟩
              try (exfalso; first | with_reducible exact absurd hc7 Bool.false_ne_true | with_reducible exact absurd hc7.symm Bool.false_ne_true | (simp only [nrm] at hc7; omega) | (simp at hc7; done))
              all_goals
               try simp only [nrm] at hc7
               refine wlit ?_
               refine wl_v (x_assign ev_c) ?_
               refine wl_nil ?_
               exact then_n ⟨_, rfl, (by repeat (first | exact agree_self | exact agree_refl | refine agree_upd rfl ?_ | refine agree_mix rfl ?_)), _, (by first | rfl | go_num | exact congrArg (Value.int _) (by first | omega | (simp; done) | (simp; omega))), (hS.pick [0, 1, 2] rfl rfl), (by first | (have hw : way = 1 := by simpa using hc4); subst hw; rw [show FitsP 1 l k a b x ↔ InL l k x by simp [FitsP], ← hzi]; simp; done | (have hw : way = 2 := by simpa using hc5); subst hw; rw [show FitsP 2 l k a b x ↔ InL l k x ∧ 0 < x.weight by simp [FitsP], ← hzi]; (first | (simp at hg17_1; simp [hg17_1]; done) | (refine ⟨fun h => ?_, fun h => absurd h.1 (by omega)⟩; first | (simp at h; done) | (simp at h; omega))) | (have hw : way = 3 := by simpa using hc6); rw [pick_fits hA hz hy (.inl hw)]; (first | (simp at hg21_1; simp [hg21_1]; done) | (refine ⟨fun h => ?_, fun h => absurd h.1 (by omega)⟩; first | (simp at h; done) | (simp at h; omega))) | (have hw : way = 4 := by simpa using hc7); rw [pick_fits hA hz hy (.inr hw)]; (first | (simp at hg21_1; simp [hg21_1]; done) | (refine ⟨fun h => ?_, fun h => absurd h.1 (by omega)⟩; first | (simp at h; done) | (simp at h; omega))) | (simp at hc4 hc5 hc6 hc7; simp [FitsP, hc4, hc5, hc6, hc7]; done))⟩
         · clear hS; intro g w hI
           obtain ⟨W, hs10, hS, hW⟩ := hI
           refine fr_knowQ (d := 10) hs10 ?_; clear hs10
           refine inb_n ?_
           refine then_n (hK36 _ _ ?_); clear hK36 K36
           refine wp_seq_k ?_; intro K45 hK45
           refine rg_startk 0 hS mixed_ ?_
           clear hS; intro w hS
           refine rg_take 0 rfl rfl (by kernel_rfl) (by kernel_rfl) (by kernel_rfl) (want_0) (fun w hok => x_fa 0 Try.underlying46 rfl rfl ts_3 (tmP rfl rfl)) ?_
           first
            | refine rg_take 1 rfl rfl (by kernel_rfl) (by kernel_rfl) (by kernel_rfl) (want_0) (fun w hok => x_load Try.underlying3 rfl (tmP rfl rfl) (cellB hok 1 rfl rfl)) ?_
            | refine rg_take 1 rfl rfl (by kernel_rfl) (by kernel_rfl) (by kernel_rfl) (want_0) (fun w hok => x_load Try.underlying3 rfl (tmP rfl rfl) (cellB hok 1 rfl (getm (by omega)))) ?_
           refine rg_take 2 rfl rfl (by kernel_rfl) (by kernel_rfl) (by kernel_rfl) (want_0) (fun w hok => x_fa 1 Try.underlying46 rfl rfl ts_30 (tmP rfl rfl)) ?_
           first
            | refine rg_take 3 rfl rfl (by kernel_rfl) (by kernel_rfl) (by kernel_rfl) (want_0) (fun w hok => x_load Try.underlying30 rfl (tmP rfl rfl) (cellB hok 1 rfl rfl)) ?_
            | refine rg_take 3 rfl rfl (by kernel_rfl) (by kernel_rfl) (by kernel_rfl) (want_0) (fun w hok => x_load Try.underlying30 rfl (tmP rfl rfl) (cellB hok 1 rfl (getm (by omega)))) ?_
           refine rg_take 5 rfl rfl (by kernel_rfl) (by kernel_rfl) (by kernel_rfl) (want_0) (fun w hok => x_fa 2 Try.underlying46 rfl rfl ts_31 (tmP rfl rfl)) ?_
           first
            | refine rg_take 6 rfl rfl (by kernel_rfl) (by kernel_rfl) (by kernel_rfl) (want_0) (fun w hok => x_load Try.underlying31 rfl (tmP rfl rfl) (cellB hok 1 rfl rfl)) ?_
            | refine rg_take 6 rfl rfl (by kernel_rfl) (by kernel_rfl) (by kernel_rfl) (want_0) (fun w hok => x_load Try.underlying31 rfl (tmP rfl rfl) (cellB hok 1 rfl (getm (by omega)))) ?_
           refine rg_take 7 rfl rfl (by kernel_rfl) (by kernel_rfl) (by kernel_rfl) (want_0) (fun w hok => x_fa 3 Try.underlying46 rfl rfl ts_31 (tmP rfl rfl)) ?_
           first
            | refine rg_take 8 rfl rfl (by kernel_rfl) (by kernel_rfl) (by kernel_rfl) (want_0) (fun w hok => x_load Try.underlying31 rfl (tmP rfl rfl) (cellB hok 1 rfl rfl)) ?_
            | refine rg_take 8 rfl rfl (by kernel_rfl) (by kernel_rfl) (by kernel_rfl) (want_0) (fun w hok => x_load Try.underlying31 rfl (tmP rfl rfl) (cellB hok 1 rfl (getm (by omega)))) ?_
           refine rg_take 9 rfl rfl (by kernel_rfl) (by kernel_rfl) (by kernel_rfl) (want_0) (fun w hok => x_loadA (cs := [_, _, _, _]) Try.underlying40 rfl ts_40 (tmP rfl rfl) (rangeB hok 0 rfl rfl)) ?_
           refine rg_take 15 rfl rfl (by kernel_rfl) (by kernel_rfl) (by kernel_rfl) (want_0) (fun w hok => x_move (tmB rfl rfl)) ?_
           refine rg_step2 4 10 rfl rfl (by kernel_rfl) (want_0) (want_0) (oks_drop hS 0 rfl) ?_ ?_
           · intro K hK
             refine ow_call Try.func16 rfl rfl (evs_cons (tmS rfl rfl) <| evs_nil) (to21_c k A c l _ (viewV hS.ok 2 rfl) hl (by omega)) ?_
             rintro e w ⟨A2, c2, rfl, hn2, hk⟩
             refine ⟨_, rfl, ?_⟩
             replace hS := hS.add hk hn2 -- +r1
             clear hn2 hk
             refine hK _ _ ?_; clear hK K
             refine rg_step 10 rfl (by kernel_rfl) (want_0) (oks_drop hS 1 rfl) ?_; intro K hK
             refine ow_build hS Try.underlying30 tz_40 (bc_takeL (tmA rfl rfl) <| bc_nil) rfl rfl (by kernel_rfl) ?_
             clear hS; intro g22_10 w hg22_10 hS
             refine hK _ _ ?_; clear hK K
             refine rg_step 11 rfl (by kernel_rfl) (want_0) (oks_drop hS 2 rfl) ?_; intro K hK
             refine ow_call Try.func16 rfl rfl (evs_cons (tmS rfl rfl) <| evs_nil) (to21_c 1 _ _ [x] _ (viewB hS.ok 0 rfl) rfl (by omega)) ?_
             rintro e w ⟨A3, c3, rfl, hn3, hk⟩
             refine ⟨_, rfl, ?_⟩
             replace hS := hS.add hk hn3 -- +r2
             clear hn3 hk
             obtain ⟨gA, rfl⟩ := row_some (hS.rowOk 0 rfl) (by omega)
             refine hK _ _ ?_; clear hK K
             refine rg_take 12 rfl rfl (by kernel_rfl) (by kernel_rfl) (by kernel_rfl) (want_0) (fun w hok => x_ixs Try.underlying36 ts_33 (tmS rfl rfl) (ev_cN 0) (by omega)) ?_
             refine rg_step 13 rfl (by kernel_rfl) (want_0) (oks_drop hS 3 rfl) ?_; intro K hK
             refine ow_v (x_loadA Try.underlying33 rfl (by exact ts_33) (tmP rfl rfl) (rangeRs (enc := cnV) (j := 0) hS.ok 0 rfl cnV_len (by simp))) ?_
             refine hK _ _ ?_; clear hK K
             refine rg_step 14 rfl (by kernel_rfl) (want_0) (oks_drop hS 3 rfl) ?_; intro K hK
             refine ow_call Try.func15 rfl rfl (evs_cons (tmI rfl rfl) <| evs_cons (tmS rfl rfl) <| evs_cons (tmI rfl rfl) <| evs_cons (tmI rfl rfl) <| evs_cons (tmA rfl rfl) <| evs_nil) (fits_j way k A2 c2 l a b x _ (viewR hS.ok 2 rfl) hl (by omega) ha hb) ?_
             rintro e w ⟨r, rfl, hr, hk⟩
             refine ⟨_, rfl, ?_⟩
             replace hS := hS.kept hk
             clear hk
             obtain rfl : r = W := Bool.eq_iff_iff.2 (hr.trans hW.symm)
             refine hK _ _ ?_; clear hK K
             refine rg_take 16 rfl rfl (by kernel_rfl) (by kernel_rfl) (by kernel_rfl) (want_0) (fun w hok => x_beql Try.underlying4 (tmB rfl rfl) (tmB rfl rfl)) ?_
             refine rg_take 17 rfl rfl (by kernel_rfl) (by kernel_rfl) (by kernel_rfl) (want_0) (fun w hok => x_move (tmB rfl rfl)) ?_
             refine gs_rgs (tm (t := 101) rfl) (fun hg22_17 => ?_) (fun hg22_17 => ?_)
             · exfalso
               simp at hg22_17
             have hg22_17' := hg22_17; (try simp only [nrm] at hg22_17'); try (exfalso; first | with_reducible exact absurd hg22_17 Bool.false_ne_true | with_reducible exact absurd hg22_17.symm Bool.false_ne_true | omega | (simp at hg22_17; done))
             all_goals
              refine rg_step 18 rfl (by kernel_rfl) (want_y rfl rfl rfl rfl (by rw [hg22_17]; rfl)) (oks_drop hS 3 rfl) ?_; intro K hK
              refine ow_call Try.func13 rfl rfl (evs_nil) (law21_awake_c _) ?_
              rintro e w ⟨rfl, hk⟩
              refine ⟨_, rfl, ?_⟩
              replace hS := hS.kept hk
              clear hk
              refine hK _ _ ?_; clear hK K
              refine rg_take 19 rfl rfl (by kernel_rfl) (by kernel_rfl) (by kernel_rfl) (want_0) (fun w hok => x_pickT (tmB rfl rfl) hg22_17 (tmB rfl rfl)) ?_
              refine rg_take 20 rfl rfl (by kernel_rfl) (by kernel_rfl) (by kernel_rfl) (want_0) (fun w hok => x_assign (tmB rfl rfl)) ?_
              refine rg_done (oks_drop hS 3 rfl) (by kernel_rfl) ?_
              refine then_n (hK45 _ _ ?_); clear hK45 K45
              refine wp_ret ?_
              refine ret1 rfl (.tmp rfl (show _ = Value.bool _ from rfl)) ?_
              exact ⟨rfl, hS.kp.below⟩
           · intro K hK
             refine ow_build hS Try.underlying30 tz_40 (bc_takeL (tmA rfl rfl) <| bc_nil) rfl rfl (by kernel_rfl) ?_
             clear hS; intro g22_10 w hg22_10 hS
             refine hK _ _ ?_; clear hK K
             refine rg_step 4 rfl (by kernel_rfl) (want_0) (oks_drop hS 1 rfl) ?_; intro K hK
             refine ow_call Try.func16 rfl rfl (evs_cons (tmS rfl rfl) <| evs_nil) (to21_c k A c l _ (viewV hS.ok 3 rfl) hl (by omega)) ?_
             rintro e w ⟨A2, c2, rfl, hn2, hk⟩
             refine ⟨_, rfl, ?_⟩
             replace hS := hS.add hk hn2 -- +r1
             clear hn2 hk
             refine hK _ _ ?_; clear hK K
             refine rg_step 11 rfl (by kernel_rfl) (want_0) (oks_drop hS 2 rfl) ?_; intro K hK
             refine ow_call Try.func16 rfl rfl (evs_cons (tmS rfl rfl) <| evs_nil) (to21_c 1 _ _ [x] _ (viewB hS.ok 1 rfl) rfl (by omega)) ?_
             rintro e w ⟨A3, c3, rfl, hn3, hk⟩
             refine ⟨_, rfl, ?_⟩
             replace hS := hS.add hk hn3 -- +r2
             clear hn3 hk
             obtain ⟨gA, rfl⟩ := row_some (hS.rowOk 0 rfl) (by omega)
             refine hK _ _ ?_; clear hK K
             refine rg_take 12 rfl rfl (by kernel_rfl) (by kernel_rfl) (by kernel_rfl) (want_0) (fun w hok => x_ixs Try.underlying36 ts_33 (tmS rfl rfl) (ev_cN 0) (by omega)) ?_
             refine rg_step 13 rfl (by kernel_rfl) (want_0) (oks_drop hS 3 rfl) ?_; intro K hK
             refine ow_v (x_loadA Try.underlying33 rfl (by exact ts_33) (tmP rfl rfl) (rangeRs (enc := cnV) (j := 0) hS.ok 0 rfl cnV_len (by simp))) ?_
             refine hK _ _ ?_; clear hK K
             refine rg_step 14 rfl (by kernel_rfl) (want_0) (oks_drop hS 3 rfl) ?_; intro K hK
             refine ow_call Try.func15 rfl rfl (evs_cons (tmI rfl rfl) <| evs_cons (tmS rfl rfl) <| evs_cons (tmI rfl rfl) <| evs_cons (tmI rfl rfl) <| evs_cons (tmA rfl rfl) <| evs_nil) (fits_j way k A2 c2 l a b x _ (viewR hS.ok 1 rfl) hl (by omega) ha hb) ?_
             rintro e w ⟨r, rfl, hr, hk⟩
             refine ⟨_, rfl, ?_⟩
             replace hS := hS.kept hk
             clear hk
             obtain rfl : r = W := Bool.eq_iff_iff.2 (hr.trans hW.symm)
             refine hK _ _ ?_; clear hK K
             refine rg_take 16 rfl rfl (by kernel_rfl) (by kernel_rfl) (by kernel_rfl) (want_0) (fun w hok => x_beql Try.underlying4 (tmB rfl rfl) (tmB rfl rfl)) ?_
             refine rg_take 17 rfl rfl (by kernel_rfl) (by kernel_rfl) (by kernel_rfl) (want_0) (fun w hok => x_move (tmB rfl rfl)) ?_
             refine gs_rgs (tm (t := 101) rfl) (fun hg22_17 => ?_) (fun hg22_17 => ?_)
             · exfalso
               simp at hg22_17
             have hg22_17' := hg22_17; (try simp only [nrm] at hg22_17'); try (exfalso; first | with_reducible exact absurd hg22_17 Bool.false_ne_true | with_reducible exact absurd hg22_17.symm Bool.false_ne_true | omega | (simp at hg22_17; done))
             all_goals
              refine rg_step 18 rfl (by kernel_rfl) (want_y rfl rfl rfl rfl (by rw [hg22_17]; rfl)) (oks_drop hS 3 rfl) ?_; intro K hK
              refine ow_call Try.func13 rfl rfl (evs_nil) (law21_awake_c _) ?_
              rintro e w ⟨rfl, hk⟩
              refine ⟨_, rfl, ?_⟩
              replace hS := hS.kept hk
              clear hk
              refine hK _ _ ?_; clear hK K
              refine rg_take 19 rfl rfl (by kernel_rfl) (by kernel_rfl) (by kernel_rfl) (want_0) (fun w hok => x_pickT (tmB rfl rfl) hg22_17 (tmB rfl rfl)) ?_
              refine rg_take 20 rfl rfl (by kernel_rfl) (by kernel_rfl) (by kernel_rfl) (want_0) (fun w hok => x_assign (tmB rfl rfl)) ?_
              refine rg_done (oks_drop hS 3 rfl) (by kernel_rfl) ?_
              refine then_n (hK45 _ _ ?_); clear hK45 K45
              refine wp_ret ?_
              refine ret1 rfl (.tmp rfl (show _ = Value.bool _ from rfl)) ?_
              exact ⟨rfl, hS.kp.below⟩
set_option maxRecDepth 100000 in
theorem walk (v0 : Value) (j : Int) (v2 : Value) (w0 : World) {H : Type} {enc : TypeId × Value → H} {r : Reach} {b0 b2 : Nat} {d0 d2 : DataW H} {p0 p2 : List MemPlace}
    (hval0 : Value.okWide Try.prog w0 r b0 46 v0) (hd0 : DataW.Trod enc Try.prog w0 0 (fun _ => true) true 46 v0 d0 p0) (hlt0 : ∀ p ∈ p0, p.block < w0.heap.size)
    (_ : -9223372036854775808 ≤ j ∧ j ≤ 9223372036854775807)
    (hval2 : Value.okWide Try.prog w0 r b2 40 v2) (hd2 : DataW.Trod enc Try.prog w0 0 (fun _ => true) true 40 v2 d2 p2) (hlt2 : ∀ p ∈ p2, p.block < w0.heap.size) :
    Calls Try.prog 4 #[v0, .int .i64 j, v2] w0 fun e w' => e = .returned (.bool true) ∧ Below w0.heap.size w0 w' := by
  obtain ⟨s, rfl, hs⟩ := RAct.open_a hval0 hd0 hlt0
  obtain ⟨x, rfl, _⟩ := RCand.open_a hval2 hd2 hlt2
  obtain ⟨way, ⟨A, l, c⟩, a, b⟩ := s
  obtain ⟨_, ⟨hlc, hcm, hv, _⟩, ha, hb⟩ := hs
  have hmx : maxLen = 9223372036854775807 := by simp [maxLen]
  rw [hmx] at hcm
  rw [flat_cn] at hv
  exact walkC way A l.length c (l.map RCand.cn) a b j x.cn w0 hv (by simp) (Nat.le_trans hlc hcm) ha hb
end PolicyFits
end Go.Proofs.Yteocdobepgbnkaa
