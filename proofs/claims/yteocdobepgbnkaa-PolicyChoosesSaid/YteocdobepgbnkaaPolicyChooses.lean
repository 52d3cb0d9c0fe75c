
/- Proved: PolicyChooses returns true for every input, and changes no memory that was there. Conditions: none. -/
import Derived.Test.YteocdobepgbnkaaPolicyJ
import Derived.Test.YteocdobepgbnkaaArgs
import Derived.Test.YteocdobepgbnkaaO
namespace Go.Proofs.Yteocdobepgbnkaa
open Go.ChangeShapes Go.WideShapes Go.ChangeAt Go.RowKit
structure GCand where
  slot : Int
  backend : Int
  weight : Int
  load : Nat
def GCand.V (s : GCand) : List Value := [.int .i64 s.slot, .int .i64 s.backend, .int .i64 s.weight, .int .u32 (s.load : Int)]
theorem GCand.len (s : GCand) : s.V.length = 4 := rfl
def GCand.ok (w : World) (s : GCand) : Prop := (-9223372036854775808 ≤ s.slot ∧ s.slot ≤ 9223372036854775807) ∧ (-9223372036854775808 ≤ s.backend ∧ s.backend ≤ 9223372036854775807) ∧ (-9223372036854775808 ≤ s.weight ∧ s.weight ≤ 9223372036854775807) ∧ s.load < 4294967296
instance : Inhabited GCand := ⟨⟨0, 0, 0, 0⟩⟩
set_option maxRecDepth 100000 in
theorem GCand.open_t {H : Type} {enc : TypeId × Value → H} {w : World} {fuel : Nat} {cs : List Value} {x : DataW H × List MemPlace} (hf : DataW.trod enc Try.prog w 0 (fun _ => true) true fuel 40 cs = some x) (hlt : ∀ p ∈ x.2, p.block < w.heap.size) : ∃ s : GCand, cs = s.V ∧ s.ok w := by
  have hC : Try.prog.cellsOf 40 = 4 := by kernel_rfl
  have hl := (DataW.trod_struct Try.underlying40 hf).choose_spec.choose_spec.2.2.1
  rw [hC] at hl
  obtain ⟨y0, k0, t0, b0⟩ := field_t Try.underlying40 hf hlt 0 _ rfl
  have hC0 : Try.prog.cellsOf 3 = 1 := by kernel_rfl
  obtain ⟨s0, e0, o0⟩ := t_i64 Try.underlying3 t0 b0
  have d0 := split_drop cs 0 1 (hC0 ▸ e0)
  obtain ⟨y1, k1, t1, b1⟩ := field_t Try.underlying40 hf hlt 1 _ rfl
  have hC1 : Try.prog.cellsOf 3 = 1 := by kernel_rfl
  obtain ⟨s1, e1, o1⟩ := t_i64 Try.underlying3 t1 b1
  have d1 := split_drop cs 1 1 (hC1 ▸ e1)
  obtain ⟨y2, k2, t2, b2⟩ := field_t Try.underlying40 hf hlt 2 _ rfl
  have hC2 : Try.prog.cellsOf 3 = 1 := by kernel_rfl
  obtain ⟨s2, e2, o2⟩ := t_i64 Try.underlying3 t2 b2
  have d2 := split_drop cs 2 1 (hC2 ▸ e2)
  obtain ⟨y3, k3, t3, b3⟩ := field_t Try.underlying40 hf hlt 3 _ rfl
  have hC3 : Try.prog.cellsOf 31 = 1 := by kernel_rfl
  obtain ⟨s3, e3, o3⟩ := t_u32 Try.underlying31 t3 b3
  have d3 := split_drop cs 3 1 (hC3 ▸ e3)
  refine ⟨⟨s0, s1, s2, s3⟩, ?_, ⟨o0, o1, o2, o3⟩⟩
  have dn : cs.drop 4 = [] := List.drop_eq_nil_of_le (by omega)
  rw [← List.drop_zero (l := cs)]
  refine d0.trans ?_
  rw [show cs.drop (0 + 1) = _ from d1]
  rw [show cs.drop (1 + 1) = _ from d2]
  rw [show cs.drop (2 + 1) = _ from d3]
  rw [show cs.drop (3 + 1) = [] from dn]
  rfl
set_option maxRecDepth 100000 in
theorem GCand.open_a {H : Type} {enc : TypeId × Value → H} {w : World} {r : Reach} {b0 : Nat} {v : Value} {d : DataW H} {ps : List MemPlace} (hval : Value.okWide Try.prog w r b0 40 v) (hd : DataW.Trod enc Try.prog w 0 (fun _ => true) true 40 v d ps) (hlt : ∀ p ∈ ps, p.block < w.heap.size) : ∃ s : GCand, v = .agg s.V.toArray ∧ s.ok w := by
  obtain ⟨cs, rfl, _⟩ := okWide_struct Try.underlying40 hval
  obtain ⟨fuel, hf⟩ := hd
  obtain ⟨s, e, h⟩ := GCand.open_t hf hlt
  exact ⟨s, by rw [← e]; simp [Value.cells], h⟩
structure GAct where
  way : Int
  l : Sl GCand
  a : Nat
  b : Nat
def GAct.V (s : GAct) : List Value := [.int .i64 s.way, .slice s.l.a s.l.l.length s.l.c, .int .u32 (s.a : Int), .int .u32 (s.b : Int)]
theorem GAct.len (s : GAct) : s.V.length = 4 := rfl
def GAct.ok (w : World) (s : GAct) : Prop := (-9223372036854775808 ≤ s.way ∧ s.way ≤ 9223372036854775807) ∧ okS w GCand.V (fun r => r.ok w) s.l ∧ s.a < 4294967296 ∧ s.b < 4294967296
instance : Inhabited GAct := ⟨⟨0, default, 0, 0⟩⟩
set_option maxRecDepth 100000 in
theorem GAct.open_t {H : Type} {enc : TypeId × Value → H} {w : World} {fuel : Nat} {cs : List Value} {x : DataW H × List MemPlace} (hf : DataW.trod enc Try.prog w 0 (fun _ => true) true fuel 46 cs = some x) (hlt : ∀ p ∈ x.2, p.block < w.heap.size) : ∃ s : GAct, cs = s.V ∧ s.ok w := by
  have hC : Try.prog.cellsOf 46 = 4 := by kernel_rfl
  have hl := (DataW.trod_struct Try.underlying46 hf).choose_spec.choose_spec.2.2.1
  rw [hC] at hl
  obtain ⟨y0, k0, t0, b0⟩ := field_t Try.underlying46 hf hlt 0 _ rfl
  have hC0 : Try.prog.cellsOf 3 = 1 := by kernel_rfl
  obtain ⟨s0, e0, o0⟩ := t_i64 Try.underlying3 t0 b0
  have d0 := split_drop cs 0 1 (hC0 ▸ e0)
  obtain ⟨y1, k1, t1, b1⟩ := field_t Try.underlying46 hf hlt 1 _ rfl
  have hC1 : Try.prog.cellsOf 30 = 1 := by kernel_rfl
  obtain ⟨s1, e1, o1⟩ := t_sl (V := GCand.V) (ok := fun r => r.ok w) Try.underlying30 4 (by kernel_rfl) (by omega) GCand.open_t t1 b1
  have d1 := split_drop cs 1 1 (hC1 ▸ e1)
  obtain ⟨y2, k2, t2, b2⟩ := field_t Try.underlying46 hf hlt 2 _ rfl
  have hC2 : Try.prog.cellsOf 31 = 1 := by kernel_rfl
  obtain ⟨s2, e2, o2⟩ := t_u32 Try.underlying31 t2 b2
  have d2 := split_drop cs 2 1 (hC2 ▸ e2)
  obtain ⟨y3, k3, t3, b3⟩ := field_t Try.underlying46 hf hlt 3 _ rfl
  have hC3 : Try.prog.cellsOf 31 = 1 := by kernel_rfl
  obtain ⟨s3, e3, o3⟩ := t_u32 Try.underlying31 t3 b3
  have d3 := split_drop cs 3 1 (hC3 ▸ e3)
  refine ⟨⟨s0, s1, s2, s3⟩, ?_, ⟨o0, o1, o2, o3⟩⟩
  have dn : cs.drop 4 = [] := List.drop_eq_nil_of_le (by omega)
  rw [← List.drop_zero (l := cs)]
  refine d0.trans ?_
  rw [show cs.drop (0 + 1) = _ from d1]
  rw [show cs.drop (1 + 1) = _ from d2]
  rw [show cs.drop (2 + 1) = _ from d3]
  rw [show cs.drop (3 + 1) = [] from dn]
  rfl
set_option maxRecDepth 100000 in
theorem GAct.open_a {H : Type} {enc : TypeId × Value → H} {w : World} {r : Reach} {b0 : Nat} {v : Value} {d : DataW H} {ps : List MemPlace} (hval : Value.okWide Try.prog w r b0 46 v) (hd : DataW.Trod enc Try.prog w 0 (fun _ => true) true 46 v d ps) (hlt : ∀ p ∈ ps, p.block < w.heap.size) : ∃ s : GAct, v = .agg s.V.toArray ∧ s.ok w := by
  obtain ⟨cs, rfl, _⟩ := okWide_struct Try.underlying46 hval
  obtain ⟨fuel, hf⟩ := hd
  obtain ⟨s, e, h⟩ := GAct.open_t hf hlt
  exact ⟨s, by rw [← e]; simp [Value.cells], h⟩
def GCand.cn (r : GCand) : Cn := ⟨r.slot, r.backend, r.weight, (r.load : Int)⟩
theorem flat_gcn (l : List GCand) : flat GCand.V l = flat cnV (l.map GCand.cn) := by
  unfold flat
  rw [List.map_map]
  rfl
namespace PolicyChooses
open PolicyF
theorem view_on {w0 w : World} {A : Option Addr} {xs : List Value} (h : View w0 w0.heap.size A xs) (hk : Kp [] w0 w) : View w w.heap.size A xs := (h.below hk.below).more hk.size
set_option maxRecDepth 100000 in
set_option maxHeartbeats 4000000 in
theorem walk_all (A0 : Option Addr) (c0 n0 : Nat) (rs : List GAct) (w0 : World) (hv0 : View w0 w0.heap.size A0 (flat GAct.V rs)) (hrs : ∀ p ∈ rs, p.ok w0) (hl0 : rs.length = n0) (hn0 : n0 ≤ 9223372036854775807) :
    Calls Try.prog 5 #[.slice A0 n0 c0] w0 fun e w' => e = .returned (.bool true) ∧ Below w0.heap.size w0 w' := by
  have hS := (St.sv w0).vcons rfl hv0
  have hfl0 := flat_length (enc := GAct.V) (l := rs) GAct.len
  refine ent (n := 120) Try.func5 rfl rfl ?_
  refine wp_seq_k ?_; intro K1 hK1
  refine wlit ?_
  refine wl_v (x_assign ev_c) ?_
  refine wl_nil ?_
  refine then_n (hK1 _ _ ?_); clear hK1 K1
  refine wp_seq_k ?_; intro K2 hK2
  refine wp_seq_k ?_; intro K3 hK3
  refine wlit ?_
  refine wl_e rfl ?_; intro K hK
  refine ow_call Try.func13 rfl rfl (evs_nil) (law21_awake_c _) ?_
  rintro e w ⟨rfl, hk1⟩
  refine ⟨_, rfl, ?_⟩
  replace hS := hS.kept hk1
  clear hk1
  refine hK _ _ ?_; clear hK K
  refine wl_v (x_not (tmB rfl rfl)) ?_
  refine wl_nil ?_
  refine then_n (hK3 _ _ ?_); clear hK3 K3
  refine cnd (tm rfl) (fun hc0 => ?_) (fun hc0 => ?_)
  · exfalso
    exact absurd hc0 (by decide)
  try (exfalso; first | with_reducible exact absurd hc0 Bool.false_ne_true | with_reducible exact absurd hc0.symm Bool.false_ne_true | (simp only [nrm] at hc0; omega) | (simp at hc0; done))
  all_goals
   try simp only [nrm] at hc0
   refine wp_skip ?_
   refine then_n (hK2 _ _ ?_); clear hK2 K2
   refine wp_seq_k ?_; intro K4 hK4
   refine wlit ?_
   refine wl_v (x_build (bc_skipL [.int .i64 0] <| bc_skipL [.slice none 0 0] <| bc_nil) (by kernel_rfl)) ?_
   refine wl_e rfl ?_; intro K hK
   refine ow_box hS (tmA rfl rfl) rfl ?_
   clear hS; intro g3_1 w hg3_1 hS
   refine hK _ _ ?_; clear hK K
   refine wl_v (x_assign (tmP rfl rfl)) ?_
   refine wl_nil ?_
   refine then_n (hK4 _ _ ?_); clear hK4 K4
   refine wp_seq_k ?_; intro K5 hK5
   refine wlit ?_
   refine wl_v (x_build (bc_skip (.int .i64 0) <| bc_skip (.slice none 0 0) <| bc_nil) (by kernel_rfl)) ?_
   refine wl_e rfl ?_; intro K hK
   refine ow_alloc hS tz_48 rfl ?_
   clear hS; intro g4_1 w hg4_1 hS
   refine hK _ _ ?_; clear hK K
   refine wl_e rfl ?_; intro K hK
   refine ow_storeA hS 0 rfl ts_48 (tmP rfl rfl) (tmA rfl rfl) rfl rfl rfl ?_
   clear hS; intro w hS
   refine hK _ _ ?_; clear hK K
   refine wl_nil ?_
   refine then_n (hK5 _ _ ?_); clear hK5 K5
   refine wp_seq_k ?_; intro K6 hK6
   refine wp_seq_k ?_; intro K7 hK7
   refine wlit ?_
   refine wl_v (x_assign (ev_cN 0)) ?_
   refine wl_nil ?_
   refine then_n (hK7 _ _ ?_); clear hK7 K7
   refine wp_block ?_
   have hS := (hS.nilrow 66 3).addn (Kp.refl _ _) (NewV.nil_ _ _ none)
   refine lp [2, 5, 6, 7, 8, 9, 10, 19, 20, 21, 22, 23, 24, 25, 26, 27, 28, 29, 30, 31, 32, 33, 34, 35, 36, 37, 38, 39, 40, 41, 42, 43, 44, 45, 46, 47, 48, 49, 50, 51, 52, 53, 54, 55, 56, 57, 58, 59, 60, 61, 62, 63, 64, 65, 66, 67, 68, 69, 70, 71, 72, 73, 74, 75, 76, 77, 78, 79, 80, 81, 82, 83, 84, 85, 86, 87, 88, 89, 90, 91, 92, 93, 94, 95, 96, 97, 98, 99, 100, 101, 102, 103, 104, 105, 106, 107] (fun mz g w => ∃ (k : Nat), ∃ (Ka R : Option Addr), ∃ (q ck cr : Nat), ∃ (sh : List Sh), ∃ (nx : Int), mz = n0 - k ∧ g 5 = .int .i64 (k : Int) ∧ St [] w0 [.vw R (flat shV sh), .row (.slice Ka q ck) 66 3 q (flat crV (sh.map Sh.cr)), .blk g4_1 48 [.int .i64 nx, .slice R q cr], .blk g3_1 58 [.int .i64 nx, .slice Ka q ck], .vw A0 (flat GAct.V rs)] w ∧ (k ≤ n0) ∧ (sh.length = q) ∧ (FairK (sh.map Sh.cr) (4000 * k)) ∧ (q ≤ 30)) ?_ ?_
   · exact ⟨_, 0, none, none, 0, 0, 0, [], 0, rfl, (by first | rfl | go_num | exact congrArg (Value.int _) (by first | omega | (simp; done) | (simp; omega))), hS, (by omega), (by first | rfl | exact hq | exact hq2), (by first | (intro i hi; exact absurd hi (Nat.not_lt_zero _)) | exact hfair2), (by omega)⟩
   · clear hS; intro mz g w hI
     obtain ⟨k, Ka, R, q, ck, cr, sh, nx, rfl, hs5, hS, hk, hq, hfair, hq30⟩ := hI
     refine fr_know (d := 5) hs5 ?_; clear hs5
     refine wp_seq_k ?_; intro K8 hK8
     refine wp_seq_k ?_; intro K9 hK9
     refine wlit ?_
     refine wl_v (x_move (tmI rfl rfl)) ?_
     refine wl_v (x_move (tmS rfl rfl)) ?_
     refine wl_v (x_len Try.underlying53 (tmS rfl rfl)) ?_
     refine wl_v (x_lss (tmI rfl rfl) (tmI rfl rfl)) ?_
     refine wl_v (x_move (tmB rfl rfl)) ?_
     refine gs_wl (tm (t := 23) rfl) (fun hg6_4 => ?_) (fun hg6_4 => ?_)
     · have hg6_4' := hg6_4; (try simp only [nrm] at hg6_4'); try (exfalso; first | with_reducible exact absurd hg6_4 Bool.false_ne_true | with_reducible exact absurd hg6_4.symm Bool.false_ne_true | omega | (simp at hg6_4; done))
       all_goals
        refine wl_gv (want_y rfl rfl rfl rfl (by rw [hg6_4]; rfl)) (x_move (tmI rfl rfl)) ?_
        refine wl_gv (want_y rfl rfl rfl rfl (by rw [hg6_4]; rfl)) (x_lss (tmI rfl rfl) (ev_cN 60)) ?_
        refine wl_v (x_pickT (tmB rfl rfl) hg6_4 (tmB rfl rfl)) ?_
        refine wl_nil ?_
        refine then_n (hK9 _ _ ?_); clear hK9 K9
        refine cnd (tm rfl) (fun hc1 => ?_) (fun hc1 => ?_)
        · try (exfalso; first | with_reducible exact absurd hc1 Bool.false_ne_true | with_reducible exact absurd hc1.symm Bool.false_ne_true | (simp only [nrm] at hc1; omega) | (simp at hc1; done))
          all_goals
           try simp only [nrm] at hc1
           have hkn : k < n0 := by omega
           have hk60 : k < 60 := by omega
           obtain ⟨s, hgd⟩ : ∃ s, rs.getD k default = s := ⟨_, rfl⟩
           have hsm : s ∈ rs := by
             rw [← hgd, List.getD_eq_getElem?_getD, List.getElem?_eq_getElem (by omega)]
             exact List.getElem_mem _
           have hsok := hrs s hsm
           obtain ⟨way, ⟨Ai, li, ci⟩, a, b⟩ := s
           obtain ⟨_, ⟨hci, hcm, hvi, _⟩, ha, hb⟩ := hsok
           have hmx : maxLen = 9223372036854775807 := by simp [maxLen]
           rw [hmx] at hcm
           replace hci : li.length ≤ ci := hci
           replace hcm : ci ≤ 9223372036854775807 := hcm
           replace ha : a < 4294967296 := ha
           replace hb : b < 4294967296 := hb
           replace hvi : View w0 w0.heap.size Ai (flat GCand.V li) := hvi
           rw [flat_gcn] at hvi
           obtain ⟨L, hL⟩ : ∃ L, li.map GCand.cn = L := ⟨_, rfl⟩
           have hLl : L.length = li.length := by rw [← hL, List.length_map]
           rw [hL] at hvi
           have hli : li.length ≤ 9223372036854775807 := Nat.le_trans hci hcm
           obtain ⟨b0, o0, rfl⟩ := view_some hv0 (by rw [hfl0]; omega)
           refine wp_skip ?_
           refine then_n (hK8 _ _ ?_); clear hK8 K8
           refine wp_seq_k ?_; intro K10 hK10
           refine wp_block ?_
           refine wp_seq_k ?_; intro K11 hK11
           refine wlit ?_
           refine wl_v (x_move (tmS rfl rfl)) ?_
           refine wl_v (x_move (tmI rfl rfl)) ?_
           refine wl_v (x_ixs Try.underlying53 ts_46 (tmS rfl rfl) (tmI rfl rfl) (by omega)) ?_
           refine wl_v (x_loadA (cs := [.int .i64 way, .slice Ai li.length ci, .int .u32 (a : Int), .int .u32 (b : Int)]) Try.underlying46 rfl (by exact ts_46) (tmP rfl rfl) (by have h9 := rangeVs hS.ok 4 rfl GAct.len (j := k) (by omega); rw [hgd] at h9; exact h9)) ?_
           refine wl_e rfl ?_; intro K hK
           refine ow_alloc hS tz_46 rfl ?_
           clear hS; intro g8_4 w hg8_4 hS
           refine hK _ _ ?_; clear hK K
           refine wl_e rfl ?_; intro K hK
           refine ow_storeA hS 0 rfl ts_46 (tmP rfl rfl) (tmA rfl rfl) rfl rfl rfl ?_
           clear hS; intro w hS
           try replace hS := St.nm (M' := [.blk _ _ [_, _, _, _], .vw _ _, .row _ _ _ _ _, .blk _ _ [_, _], .blk _ _ [_, _], .vw _ _]) hS rfl
           refine hK _ _ ?_; clear hK K
           refine wl_nil ?_
           refine then_n (hK11 _ _ ?_); clear hK11 K11
           refine wp_seq_k ?_; intro K12 hK12
           refine wp_seq_k ?_; intro K13 hK13
           refine wlit ?_
           refine wl_v (x_fa 1 Try.underlying46 rfl rfl ts_30 (tmP rfl rfl)) ?_
           first
            | refine wl_v (x_load Try.underlying30 rfl (tmP rfl rfl) (cellB hS.ok 0 rfl rfl)) ?_
            | refine wl_v (x_load Try.underlying30 rfl (tmP rfl rfl) (cellB hS.ok 0 rfl (getm (by omega)))) ?_
           refine wl_e rfl ?_; intro K hK
           refine ow_call Try.func12 rfl rfl (evs_cons (tmS rfl rfl) <| evs_nil) (right21_c li.length Ai ci L _ (view_on hvi hS.kp) hLl hli) ?_
           rintro e w ⟨b1, rfl, hb1, hk1⟩
           refine ⟨_, rfl, ?_⟩
           replace hS := hS.kept hk1
           clear hk1
           refine hK _ _ ?_; clear hK K
           refine wl_v (x_not (tmB rfl rfl)) ?_
           refine wl_nil ?_
           refine then_n (hK13 _ _ ?_); clear hK13 K13
           refine cnd (tm rfl) (fun hc2 => ?_) (fun hc2 => ?_)
           · try (exfalso; first | with_reducible exact absurd hc2 Bool.false_ne_true | with_reducible exact absurd hc2.symm Bool.false_ne_true | (simp only [nrm] at hc2; omega) | (simp at hc2; done))
             all_goals
              try simp only [nrm] at hc2
              have hfair2 : FairK (sh.map Sh.cr) (4000 * ((k + 1 : Nat) : Int)) := by
                intro i hi
                have := hfair i hi
                omega
              refine wp_exit ?_
              refine then_x ?_; clear hK12 K12
              refine inb_x ?_
              refine then_n (hK10 _ _ ?_); clear hK10 K10
              refine wlit ?_
              refine wl_v (x_move (tmI rfl rfl)) ?_
              first
               | refine wl_v (x_addN (tmI rfl rfl) (ev_cN 1) (fit_i64 (by omega))) ?_
               | refine wl_v (x_addI (tmI rfl rfl) (ev_cN 1) (IntWalk.i64_in _ (by omega))) ?_
               | refine wl_v (x_add (tmI rfl rfl) (ev_cN 1)) ?_
              refine wl_v (x_assign (tmI rfl rfl)) ?_
              refine wl_nil ?_
              first
               | exact then_n ⟨_, _, rfl, (by show _ < _; omega), (by repeat (first | exact agree_self | exact agree_refl | refine agree_upd rfl ?_ | refine agree_mix rfl ?_)), k + 1, _, _, _, _, _, _, _, rfl, (by first | rfl | go_num | exact congrArg (Value.int _) (by first | omega | (simp; done) | (simp; omega))), (hS.pick [1, 2, 3, 4, 5] rfl rfl), (by omega), (by first | rfl | exact hq | exact hq2), (by first | (intro i hi; exact absurd hi (Nat.not_lt_zero _)) | exact hfair2), (by omega)⟩
               | exact then_n ⟨_, _, rfl, (by show _ < _; omega), (by repeat (first | exact agree_self | exact agree_refl | refine agree_upd rfl ?_ | refine agree_mix rfl ?_)), k + 1, _, _, _, _, _, _, _, rfl, (by first | rfl | go_num | exact congrArg (Value.int _) (by first | omega | (simp; done) | (simp; omega))), hS, (by omega), (by first | rfl | exact hq | exact hq2), (by first | (intro i hi; exact absurd hi (Nat.not_lt_zero _)) | exact hfair2), (by omega)⟩
           try (exfalso; first | with_reducible exact absurd hc2 Bool.false_ne_true | with_reducible exact absurd hc2.symm Bool.false_ne_true | (simp only [nrm] at hc2; omega) | (simp at hc2; done))
           all_goals
            try simp only [nrm] at hc2
            obtain ⟨hn30, hR, hA⟩ := hb1 (by simpa using hc2)
            have hwn : (wfT L li.length).length ≤ 30 := Nat.le_trans (wfT_le _ _) hn30
            have hww := wf_weight hR
            have hmild : Mild (startP (wfT L li.length) (sh.map Sh.cr)) := mild_fair (fair_start (by omega) hww hfair) (by omega)
            have hfair3 : FairK (nextK (wfT L li.length) (sh.map Sh.cr)) (4000 * ((k + 1 : Nat) : Int)) := by
              rw [show (4000 * ((k + 1 : Nat) : Int)) = 4000 * (k : Int) + 4000 by omega]
              exact fair_next (by omega) hww hwn hfair
            have hfair4 : FairK (sh.map Sh.cr) (4000 * ((k + 1 : Nat) : Int)) := by
              intro i hi
              have := hfair i hi
              omega
            have hql : (nextK (wfT L li.length) (sh.map Sh.cr)).length ≤ 30 := next_len hwn (by rw [List.length_map]; omega)
            refine wp_skip ?_
            refine then_n (hK12 _ _ ?_); clear hK12 K12
            refine wp_seq_k ?_; intro K14 hK14
            refine cutc [7, 8, 37, 38, 39, 40, 41, 42, 43, 44, 45, 46, 47, 48, 49, 50] (fun g w => ∃ (K2 : Option Addr), ∃ (m2 k2 : Nat), ∃ (nx2 : Int), ∃ (ks2 : List Cr), ∃ (x : Cn), ∃ (ok : Bool), ∃ (gx : Nat), g 7 = .pointer (some ⟨gx, 0, none⟩) ∧ g 8 = .bool ok ∧ St [] w0 [.row (.slice K2 m2 k2) 66 3 m2 (flat crV ks2), .blk g3_1 58 [.int .i64 nx2, .slice K2 m2 k2], .blk gx 33 (cnV x), .blk g8_4 46 [.int .i64 way, .slice Ai li.length ci, .int .u32 (a : Int), .int .u32 (b : Int)], .vw R (flat shV sh), .blk g4_1 48 [.int .i64 nx, .slice R q cr], .vw (some ⟨b0, o0, none⟩) (flat GAct.V rs)] w ∧ (ks2.length = m2) ∧ (ChooseP way L li.length a b nx (sh.map Sh.cr) nx2 ks2 x ok)) ?_ ?_
            · skip
              --ents row,g3_1,g8_4,vr,g4_1,vw
              replace hS := hS.pick [2, 4, 0, 1, 3, 5] rfl rfl
              try replace hS := St.nm (M' := [.row _ _ _ _ _, .blk _ _ [_, _], .blk _ _ [_, _, _, _], .vw _ _, .blk _ _ [_, _], .vw _ _]) hS rfl
              refine rg_startk 2 hS mixed_ ?_
              clear hS; intro w hS
              refine rg_take 0 rfl rfl (by kernel_rfl) (by kernel_rfl) (by kernel_rfl) (want_0) (fun w hok => x_move (tmP rfl rfl)) ?_
              refine rg_take 1 rfl rfl (by kernel_rfl) (by kernel_rfl) (by kernel_rfl) (want_0) (fun w hok => x_fa 0 Try.underlying46 rfl rfl ts_3 (tmP rfl rfl)) ?_
              first
               | refine rg_take 2 rfl rfl (by kernel_rfl) (by kernel_rfl) (by kernel_rfl) (want_0) (fun w hok => x_load Try.underlying3 rfl (tmP rfl rfl) (cellB hok 0 rfl rfl)) ?_
               | refine rg_take 2 rfl rfl (by kernel_rfl) (by kernel_rfl) (by kernel_rfl) (want_0) (fun w hok => x_load Try.underlying3 rfl (tmP rfl rfl) (cellB hok 0 rfl (getm (by omega)))) ?_
              refine rg_take 3 rfl rfl (by kernel_rfl) (by kernel_rfl) (by kernel_rfl) (want_0) (fun w hok => x_fa 1 Try.underlying46 rfl rfl ts_30 (tmP rfl rfl)) ?_
              first
               | refine rg_take 4 rfl rfl (by kernel_rfl) (by kernel_rfl) (by kernel_rfl) (want_0) (fun w hok => x_load Try.underlying30 rfl (tmP rfl rfl) (cellB hok 0 rfl rfl)) ?_
               | refine rg_take 4 rfl rfl (by kernel_rfl) (by kernel_rfl) (by kernel_rfl) (want_0) (fun w hok => x_load Try.underlying30 rfl (tmP rfl rfl) (cellB hok 0 rfl (getm (by omega)))) ?_
              refine rg_take 6 rfl rfl (by kernel_rfl) (by kernel_rfl) (by kernel_rfl) (want_0) (fun w hok => x_fa 2 Try.underlying46 rfl rfl ts_31 (tmP rfl rfl)) ?_
              first
               | refine rg_take 7 rfl rfl (by kernel_rfl) (by kernel_rfl) (by kernel_rfl) (want_0) (fun w hok => x_load Try.underlying31 rfl (tmP rfl rfl) (cellB hok 0 rfl rfl)) ?_
               | refine rg_take 7 rfl rfl (by kernel_rfl) (by kernel_rfl) (by kernel_rfl) (want_0) (fun w hok => x_load Try.underlying31 rfl (tmP rfl rfl) (cellB hok 0 rfl (getm (by omega)))) ?_
              refine rg_take 8 rfl rfl (by kernel_rfl) (by kernel_rfl) (by kernel_rfl) (want_0) (fun w hok => x_fa 3 Try.underlying46 rfl rfl ts_31 (tmP rfl rfl)) ?_
              first
               | refine rg_take 9 rfl rfl (by kernel_rfl) (by kernel_rfl) (by kernel_rfl) (want_0) (fun w hok => x_load Try.underlying31 rfl (tmP rfl rfl) (cellB hok 0 rfl rfl)) ?_
               | refine rg_take 9 rfl rfl (by kernel_rfl) (by kernel_rfl) (by kernel_rfl) (want_0) (fun w hok => x_load Try.underlying31 rfl (tmP rfl rfl) (cellB hok 0 rfl (getm (by omega)))) ?_
              refine rg_step2 5 14 rfl rfl (by kernel_rfl) (want_0) (want_0) (oks_drop hS 2 rfl) ?_ ?_
              · intro K hK
                refine ow_call Try.func16 rfl rfl (evs_cons (tmS rfl rfl) <| evs_nil) (to21_c li.length Ai ci L _ (view_on hvi hS.kp) hLl (by omega)) ?_
                rintro e w ⟨A2, c2, rfl, hn2, hk2⟩
                refine ⟨_, rfl, ?_⟩
                replace hS := hS.add hk2 hn2 -- +r1
                clear hn2 hk2
                refine hK _ _ ?_; clear hK K
                refine rg_step2 10 14 rfl rfl (by kernel_rfl) (want_0) (want_0) (oks_drop hS 3 rfl) ?_ ?_
                · intro K hK
                  refine ow_call Try.func17 rfl rfl (evs_cons (tmP rfl rfl) <| evs_cons (tmI rfl rfl) <| evs_cons (tmS rfl rfl) <| evs_cons (tmI rfl rfl) <| evs_cons (tmI rfl rfl) <| evs_nil) (choose_c way nx g3_1 Ka q ck (sh.map Sh.cr) li.length A2 c2 L a b _ _ (hS.enter [1, 2] [0] rfl rfl) hLl (by rw [List.length_map]; exact hq) (by omega) hR hmild ha hb) ?_
                  rintro e w ⟨K2, m2, k2, nx2, ks2, x, ok, rfl, hm2, hcp, hS2⟩
                  refine ⟨_, rfl, ?_⟩
                  replace hS := hS.leave [1, 2] [0, 3, 4, 5, 6] rfl rfl rfl (hS2.pick [0, 1] rfl rfl) rfl -- --lead row,g3_1
                  clear hS2
                  try replace hS := St.nm (M' := [.row _ _ _ _ _, .blk _ _ [_, _], _, .blk _ _ [_, _, _, _], .vw _ _, .blk _ _ [_, _], .vw _ _]) hS rfl
                  refine hK _ _ ?_; clear hK K
                  refine rg_take 11 rfl rfl (by kernel_rfl) (by kernel_rfl) (by kernel_rfl) (want_0) (fun w hok => x_move (tmT rfl rfl)) ?_
                  refine rg_take 12 rfl rfl (by kernel_rfl) (by kernel_rfl) (by kernel_rfl) (want_0) (fun w hok => x_ext (tmT rfl rfl) rfl) ?_
                  refine rg_take 13 rfl rfl (by kernel_rfl) (by kernel_rfl) (by kernel_rfl) (want_0) (fun w hok => x_ext (tmT rfl rfl) rfl) ?_
                  refine rg_step 14 rfl (by kernel_rfl) (want_0) (oks_drop hS 3 rfl) ?_; intro K hK
                  refine ow_alloc hS tz_33 rfl ?_
                  clear hS; intro g10_14 w hg10_14 hS
                  refine hK _ _ ?_; clear hK K
                  refine rg_step 15 rfl (by kernel_rfl) (want_0) (oks_drop hS 4 rfl) ?_; intro K hK
                  refine ow_storeA hS 0 rfl ts_33 (tmP rfl rfl) (tmA rfl rfl) rfl rfl rfl ?_
                  clear hS; intro w hS
                  try replace hS := St.nm (M' := [.blk _ _ [_, _, _, _], .row _ _ _ _ _, .blk _ _ [_, _], _, .blk _ _ [_, _, _, _], .vw _ _, .blk _ _ [_, _], .vw _ _]) hS rfl
                  refine hK _ _ ?_; clear hK K
                  refine rg_take 16 rfl rfl (by kernel_rfl) (by kernel_rfl) (by kernel_rfl) (want_0) (fun w hok => x_assign (tmB rfl rfl)) ?_
                  refine rg_done (oks_drop hS 4 rfl) (by kernel_rfl) ?_
                  exact then_n ⟨_, rfl, (by repeat (first | exact agree_self | exact agree_refl | refine agree_upd rfl ?_ | refine agree_mix rfl ?_)), _, _, _, _, _, _, _, _, (by first | rfl | go_num | exact congrArg (Value.int _) (by first | omega | (simp; done) | (simp; omega))), (by first | rfl | go_num | exact congrArg (Value.int _) (by first | omega | (simp; done) | (simp; omega))), (hS.pick [1, 2, 0, 4, 5, 6, 7] rfl rfl), (by exact hm2), (by exact hcp)⟩
                · intro K hK
                  refine ow_alloc hS tz_33 rfl ?_
                  clear hS; intro g10_14 w hg10_14 hS
                  refine hK _ _ ?_; clear hK K
                  refine rg_step 10 rfl (by kernel_rfl) (want_0) (oks_drop hS 4 rfl) ?_; intro K hK
                  refine ow_call Try.func17 rfl rfl (evs_cons (tmP rfl rfl) <| evs_cons (tmI rfl rfl) <| evs_cons (tmS rfl rfl) <| evs_cons (tmI rfl rfl) <| evs_cons (tmI rfl rfl) <| evs_nil) (choose_c way nx g3_1 Ka q ck (sh.map Sh.cr) li.length A2 c2 L a b _ _ (hS.enter [2, 3] [1] rfl rfl) hLl (by rw [List.length_map]; exact hq) (by omega) hR hmild ha hb) ?_
                  rintro e w ⟨K2, m2, k2, nx2, ks2, x, ok, rfl, hm2, hcp, hS2⟩
                  refine ⟨_, rfl, ?_⟩
                  replace hS := hS.leave [2, 3] [0, 1, 4, 5, 6, 7] rfl rfl rfl (hS2.pick [0, 1] rfl rfl) rfl -- --lead row,g3_1
                  clear hS2
                  try replace hS := St.nm (M' := [.row _ _ _ _ _, .blk _ _ [_, _], .blk _ _ [_, _, _, _], _, .blk _ _ [_, _, _, _], .vw _ _, .blk _ _ [_, _], .vw _ _]) hS rfl
                  refine hK _ _ ?_; clear hK K
                  refine rg_take 11 rfl rfl (by kernel_rfl) (by kernel_rfl) (by kernel_rfl) (want_0) (fun w hok => x_move (tmT rfl rfl)) ?_
                  refine rg_take 12 rfl rfl (by kernel_rfl) (by kernel_rfl) (by kernel_rfl) (want_0) (fun w hok => x_ext (tmT rfl rfl) rfl) ?_
                  refine rg_take 13 rfl rfl (by kernel_rfl) (by kernel_rfl) (by kernel_rfl) (want_0) (fun w hok => x_ext (tmT rfl rfl) rfl) ?_
                  refine rg_step 15 rfl (by kernel_rfl) (want_0) (oks_drop hS 4 rfl) ?_; intro K hK
                  refine ow_storeA hS 2 rfl ts_33 (tmP rfl rfl) (tmA rfl rfl) rfl rfl rfl ?_
                  clear hS; intro w hS
                  try replace hS := St.nm (M' := [.row _ _ _ _ _, .blk _ _ [_, _], .blk _ _ [_, _, _, _], _, .blk _ _ [_, _, _, _], .vw _ _, .blk _ _ [_, _], .vw _ _]) hS rfl
                  refine hK _ _ ?_; clear hK K
                  refine rg_take 16 rfl rfl (by kernel_rfl) (by kernel_rfl) (by kernel_rfl) (want_0) (fun w hok => x_assign (tmB rfl rfl)) ?_
                  refine rg_done (oks_drop hS 4 rfl) (by kernel_rfl) ?_
                  exact then_n ⟨_, rfl, (by repeat (first | exact agree_self | exact agree_refl | refine agree_upd rfl ?_ | refine agree_mix rfl ?_)), _, _, _, _, _, _, _, _, (by first | rfl | go_num | exact congrArg (Value.int _) (by first | omega | (simp; done) | (simp; omega))), (by first | rfl | go_num | exact congrArg (Value.int _) (by first | omega | (simp; done) | (simp; omega))), (hS.pick [0, 1, 2, 4, 5, 6, 7] rfl rfl), (by exact hm2), (by exact hcp)⟩
              · intro K hK
                refine ow_alloc hS tz_33 rfl ?_
                clear hS; intro g10_14 w hg10_14 hS
                refine hK _ _ ?_; clear hK K
                refine rg_step 5 rfl (by kernel_rfl) (want_0) (oks_drop hS 3 rfl) ?_; intro K hK
                refine ow_call Try.func16 rfl rfl (evs_cons (tmS rfl rfl) <| evs_nil) (to21_c li.length Ai ci L _ (view_on hvi hS.kp) hLl (by omega)) ?_
                rintro e w ⟨A2, c2, rfl, hn2, hk2⟩
                refine ⟨_, rfl, ?_⟩
                replace hS := hS.add hk2 hn2 -- +r1
                clear hn2 hk2
                refine hK _ _ ?_; clear hK K
                refine rg_step 10 rfl (by kernel_rfl) (want_0) (oks_drop hS 4 rfl) ?_; intro K hK
                refine ow_call Try.func17 rfl rfl (evs_cons (tmP rfl rfl) <| evs_cons (tmI rfl rfl) <| evs_cons (tmS rfl rfl) <| evs_cons (tmI rfl rfl) <| evs_cons (tmI rfl rfl) <| evs_nil) (choose_c way nx g3_1 Ka q ck (sh.map Sh.cr) li.length A2 c2 L a b _ _ (hS.enter [2, 3] [0] rfl rfl) hLl (by rw [List.length_map]; exact hq) (by omega) hR hmild ha hb) ?_
                rintro e w ⟨K2, m2, k2, nx2, ks2, x, ok, rfl, hm2, hcp, hS2⟩
                refine ⟨_, rfl, ?_⟩
                replace hS := hS.leave [2, 3] [0, 1, 4, 5, 6, 7] rfl rfl rfl (hS2.pick [0, 1] rfl rfl) rfl -- --lead row,g3_1
                clear hS2
                try replace hS := St.nm (M' := [.row _ _ _ _ _, .blk _ _ [_, _], _, .blk _ _ [_, _, _, _], .blk _ _ [_, _, _, _], .vw _ _, .blk _ _ [_, _], .vw _ _]) hS rfl
                refine hK _ _ ?_; clear hK K
                refine rg_take 11 rfl rfl (by kernel_rfl) (by kernel_rfl) (by kernel_rfl) (want_0) (fun w hok => x_move (tmT rfl rfl)) ?_
                refine rg_take 12 rfl rfl (by kernel_rfl) (by kernel_rfl) (by kernel_rfl) (want_0) (fun w hok => x_ext (tmT rfl rfl) rfl) ?_
                refine rg_take 13 rfl rfl (by kernel_rfl) (by kernel_rfl) (by kernel_rfl) (want_0) (fun w hok => x_ext (tmT rfl rfl) rfl) ?_
                refine rg_step 15 rfl (by kernel_rfl) (want_0) (oks_drop hS 4 rfl) ?_; intro K hK
                refine ow_storeA hS 3 rfl ts_33 (tmP rfl rfl) (tmA rfl rfl) rfl rfl rfl ?_
                clear hS; intro w hS
                try replace hS := St.nm (M' := [.row _ _ _ _ _, .blk _ _ [_, _], _, .blk _ _ [_, _, _, _], .blk _ _ [_, _, _, _], .vw _ _, .blk _ _ [_, _], .vw _ _]) hS rfl
                refine hK _ _ ?_; clear hK K
                refine rg_take 16 rfl rfl (by kernel_rfl) (by kernel_rfl) (by kernel_rfl) (want_0) (fun w hok => x_assign (tmB rfl rfl)) ?_
                refine rg_done (oks_drop hS 4 rfl) (by kernel_rfl) ?_
                exact then_n ⟨_, rfl, (by repeat (first | exact agree_self | exact agree_refl | refine agree_upd rfl ?_ | refine agree_mix rfl ?_)), _, _, _, _, _, _, _, _, (by first | rfl | go_num | exact congrArg (Value.int _) (by first | omega | (simp; done) | (simp; omega))), (by first | rfl | go_num | exact congrArg (Value.int _) (by first | omega | (simp; done) | (simp; omega))), (hS.pick [0, 1, 3, 4, 5, 6, 7] rfl rfl), (by exact hm2), (by exact hcp)⟩
            · clear hS; intro g w hI
              obtain ⟨K2, m2, k2, nx2, ks2, x, ok, gx, hs7, hs8, hS, hm2, hcp⟩ := hI
              refine fr_knowQ (d := 7) hs7 ?_; clear hs7
              refine fr_knowQ (d := 8) hs8 ?_; clear hs8
              refine then_n (hK14 _ _ ?_); clear hK14 K14
              refine wp_seq_k ?_; intro K16 hK16
              refine wlit ?_
              refine wl_v (x_loadA (cs := [_, _]) Try.underlying48 rfl ts_48 (tmP rfl rfl) (rangeB hS.ok 5 rfl rfl)) ?_
              refine wl_v (x_fa 0 Try.underlying46 rfl rfl ts_3 (tmP rfl rfl)) ?_
              first
               | refine wl_v (x_load Try.underlying3 rfl (tmP rfl rfl) (cellB hS.ok 3 rfl rfl)) ?_
               | refine wl_v (x_load Try.underlying3 rfl (tmP rfl rfl) (cellB hS.ok 3 rfl (getm (by omega)))) ?_
              refine wl_v (x_fa 1 Try.underlying46 rfl rfl ts_30 (tmP rfl rfl)) ?_
              first
               | refine wl_v (x_load Try.underlying30 rfl (tmP rfl rfl) (cellB hS.ok 3 rfl rfl)) ?_
               | refine wl_v (x_load Try.underlying30 rfl (tmP rfl rfl) (cellB hS.ok 3 rfl (getm (by omega)))) ?_
              refine wl_v (x_fa 2 Try.underlying46 rfl rfl ts_31 (tmP rfl rfl)) ?_
              first
               | refine wl_v (x_load Try.underlying31 rfl (tmP rfl rfl) (cellB hS.ok 3 rfl rfl)) ?_
               | refine wl_v (x_load Try.underlying31 rfl (tmP rfl rfl) (cellB hS.ok 3 rfl (getm (by omega)))) ?_
              refine wl_v (x_fa 3 Try.underlying46 rfl rfl ts_31 (tmP rfl rfl)) ?_
              first
               | refine wl_v (x_load Try.underlying31 rfl (tmP rfl rfl) (cellB hS.ok 3 rfl rfl)) ?_
               | refine wl_v (x_load Try.underlying31 rfl (tmP rfl rfl) (cellB hS.ok 3 rfl (getm (by omega)))) ?_
              refine wl_e rfl ?_; intro K hK
              refine ow_call Try.func14 rfl rfl (evs_cons (tmA rfl rfl) <| evs_cons (tmI rfl rfl) <| evs_cons (tmS rfl rfl) <| evs_cons (tmI rfl rfl) <| evs_cons (tmI rfl rfl) <| evs_nil) (rchoose_c way nx R q cr sh li.length Ai ci L a b _ (viewV hS.ok 4 rfl) (view_on hvi hS.kp) hq hLl hn30 hq30 hR hmild ha hb) ?_
              rintro e w ⟨nx3, R2, q2, cr2, sh2, z, rfl, hq2, hcr, hor, hk2⟩
              refine ⟨_, rfl, ?_⟩
              replace hS := hS.orv 4 rfl hk2 hor -- +vx
              clear hor hk2
              have hkk : sh2.map Sh.cr = sh.map Sh.cr ∨ sh2.map Sh.cr = nextK (wfT L li.length) (sh.map Sh.cr) := by
                rcases hcr with ⟨_, h, _⟩ | ⟨_, _, h, _⟩ | ⟨_, _, h, _⟩ | ⟨_, _, h, _⟩
                · exact .inl h
                · exact .inr h
                · exact .inl h
                · exact .inl h
              have hfair2 : FairK (sh2.map Sh.cr) (4000 * ((k + 1 : Nat) : Int)) := by
                rcases hkk with h | h <;> rw [h]
                · exact hfair4
                · exact hfair3
              have hq230 : q2 ≤ 30 := by
                rw [← hq2, show sh2.length = (sh2.map Sh.cr).length by simp]
                rcases hkk with h | h <;> rw [h]
                · rw [List.length_map]; omega
                · exact hql
              obtain ⟨rfl, rfl, hfin⟩ := choose_same hcp hcr
              obtain rfl : m2 = q2 := by rw [← hm2, List.length_map]; exact hq2
              clear hcp hcr hkk
              refine hK _ _ ?_; clear hK K
              refine wl_v (x_move (tmT rfl rfl)) ?_
              refine wl_v (x_ext (tmT rfl rfl) rfl) ?_
              refine wl_v (x_ext (tmT rfl rfl) rfl) ?_
              refine wl_e rfl ?_; intro K hK
              refine ow_alloc hS tz_48 rfl ?_
              clear hS; intro g11_13 w hg11_13 hS
              refine hK _ _ ?_; clear hK K
              refine wl_e rfl ?_; intro K hK
              refine ow_storeA hS 0 rfl ts_48 (tmP rfl rfl) (tmA rfl rfl) rfl rfl rfl ?_
              clear hS; intro w hS
              refine hK _ _ ?_; clear hK K
              refine wl_v (x_assign (tmI rfl rfl)) ?_
              refine wl_nil ?_
              refine then_n (hK16 _ _ ?_); clear hK16 K16
              refine wp_seq_k ?_; intro K17 hK17
              refine wlit ?_
              refine wl_v (x_loadA (cs := [_, _]) Try.underlying48 rfl ts_48 (tmP rfl rfl) (rangeB hS.ok 0 rfl rfl)) ?_
              refine wl_e rfl ?_; intro K hK
              refine ow_storeA hS 7 rfl ts_48 (tmP rfl rfl) (tmA rfl rfl) rfl rfl rfl ?_
              clear hS; intro w hS
              refine hK _ _ ?_; clear hK K
              refine wl_nil ?_
              refine then_n (hK17 _ _ ?_); clear hK17 K17
              refine wp_seq_k ?_; intro K18 hK18
              refine cutc [65, 66, 67, 68, 69, 70, 71, 72, 73, 74, 75, 76, 77, 78, 79, 80, 81, 82, 83, 84, 85, 86, 87, 88, 89, 90, 91, 92, 93, 94, 95, 96, 97, 98, 99, 100, 101, 102, 103, 104, 105, 106, 107] (fun g w => g 107 = .bool false ∧ St [] w0 [.vw R2 (flat shV sh2), .row (.slice K2 m2 k2) 66 3 m2 (flat crV (sh2.map Sh.cr)), .blk g4_1 48 [.int .i64 nx2, .slice R2 m2 cr2], .blk g3_1 58 [.int .i64 nx2, .slice K2 m2 k2], .vw (some ⟨b0, o0, none⟩) (flat GAct.V rs)] w) ?_ ?_
              · skip
                refine rg_startk 0 hS mixed_ ?_
                clear hS; intro w hS
                refine rg_take 0 rfl rfl (by kernel_rfl) (by kernel_rfl) (by kernel_rfl) (want_0) (fun w hok => x_move (tmB rfl rfl)) ?_
                refine rg_take 1 rfl rfl (by kernel_rfl) (by kernel_rfl) (by kernel_rfl) (want_0) (fun w hok => x_move (tmI rfl rfl)) ?_
                refine rg_take 2 rfl rfl (by kernel_rfl) (by kernel_rfl) (by kernel_rfl) (want_0) (fun w hok => x_geq (tmI rfl rfl) (ev_cN 0)) ?_
                refine rg_take 3 rfl rfl (by kernel_rfl) (by kernel_rfl) (by kernel_rfl) (want_0) (fun w hok => x_bneq Try.underlying4 (tmB rfl rfl) (tmB rfl rfl)) ?_
                refine rg_take 4 rfl rfl (by kernel_rfl) (by kernel_rfl) (by kernel_rfl) (want_0) (fun w hok => x_move (tmB rfl rfl)) ?_
                refine gs_rg (tm (t := 69) rfl) (fun hg13_4 => ?_) (fun hg13_4 => ?_)
                · exfalso
                  rcases hfin with ⟨rfl, i, rfl, _⟩ | ⟨rfl, rfl, _⟩
                  · simp at hg13_4
                  · simp at hg13_4
                have hg13_4' := hg13_4; (try simp only [nrm] at hg13_4'); try (exfalso; first | with_reducible exact absurd hg13_4 Bool.false_ne_true | with_reducible exact absurd hg13_4.symm Bool.false_ne_true | omega | (simp at hg13_4; done))
                all_goals
                 refine rg_take 5 rfl rfl (by kernel_rfl) (by kernel_rfl) (by kernel_rfl) (want_y rfl rfl rfl rfl (by rw [hg13_4]; rfl)) (fun w hok => x_move (tmB rfl rfl)) ?_
                 refine rg_take 6 rfl rfl (by kernel_rfl) (by kernel_rfl) (by kernel_rfl) (want_y rfl rfl rfl rfl (by rw [hg13_4]; rfl)) (fun w hok => x_not (tmB rfl rfl)) ?_
                 refine rg_take 7 rfl rfl (by kernel_rfl) (by kernel_rfl) (by kernel_rfl) (want_y rfl rfl rfl rfl (by rw [hg13_4]; rfl)) (fun w hok => x_move (tmB rfl rfl)) ?_
                 refine gs_rg (tm (t := 72) rfl) (fun hg13_7 => ?_) (fun hg13_7 => ?_)
                 · have hg13_7' := hg13_7; (try simp only [nrm] at hg13_7'); try (exfalso; first | with_reducible exact absurd hg13_7 Bool.false_ne_true | with_reducible exact absurd hg13_7.symm Bool.false_ne_true | omega | (simp at hg13_7; done))
                   all_goals
                    first
                     | refine rg_take 8 rfl rfl (by kernel_rfl) (by kernel_rfl) (by kernel_rfl) (want_y rfl rfl rfl rfl (by rw [hg13_7]; rfl)) (fun w hok => x_loadA (cs := [_, _, _, _]) Try.underlying33 rfl ts_33 (tmP rfl rfl) (rangeB hok 4 rfl rfl)) ?_
                     | refine rg_take 8 rfl rfl (by kernel_rfl) (by kernel_rfl) (by kernel_rfl) (want_y rfl rfl rfl rfl (by rw [hg13_7]; rfl)) (fun w hok => x_loadA Try.underlying33 rfl (by exact ts_33) (tmP rfl rfl) (rangeVs hok 1 rfl (fun _ => rfl) (by omega))) ?_
                     | refine rg_take 8 rfl rfl (by kernel_rfl) (by kernel_rfl) (by kernel_rfl) (want_y rfl rfl rfl rfl (by rw [hg13_7]; rfl)) (fun w hok => x_loadA Try.underlying33 rfl (by exact ts_33) (tmP rfl rfl) (rangeRs hok 2 rfl (fun _ => rfl) (by omega))) ?_
                     | refine rg_take 8 rfl rfl (by kernel_rfl) (by kernel_rfl) (by kernel_rfl) (want_y rfl rfl rfl rfl (by rw [hg13_7]; rfl)) (fun w hok => x_loadA Try.underlying33 rfl (by exact ts_33) (tmP rfl rfl) (rangeVs hok 6 rfl (fun _ => rfl) (by omega))) ?_
                     | refine rg_take 8 rfl rfl (by kernel_rfl) (by kernel_rfl) (by kernel_rfl) (want_y rfl rfl rfl rfl (by rw [hg13_7]; rfl)) (fun w hok => x_loadA Try.underlying33 rfl (by exact ts_33) (tmP rfl rfl) (rangeVs hok 8 rfl (fun _ => rfl) (by omega))) ?_
                    refine rg_take 9 rfl rfl (by kernel_rfl) (by kernel_rfl) (by kernel_rfl) (want_y rfl rfl rfl rfl (by rw [hg13_7]; rfl)) (fun w hok => x_build (bc_skip (.int .i64 0) <| bc_skip (.int .i64 0) <| bc_skip (.int .i64 0) <| bc_skip (.int .u32 0) <| bc_nil) (by kernel_rfl)) ?_
                    refine rg_take 10 rfl rfl (by kernel_rfl) (by kernel_rfl) (by kernel_rfl) (want_y rfl rfl rfl rfl (by rw [hg13_7]; rfl)) (fun w hok => x_Aneq (by kernel_rfl) (tmA rfl rfl) (tmA rfl rfl) (eqv_A Try.underlying33 (by kernel_rfl) (fe_cons rfl (pt_1 Try.underlying3 rfl rfl) (pt_1 Try.underlying3 rfl rfl) (eqv_i Try.underlying3) <| fe_cons rfl (pt_1 Try.underlying3 rfl rfl) (pt_1 Try.underlying3 rfl rfl) (eqv_i Try.underlying3) <| fe_cons rfl (pt_1 Try.underlying3 rfl rfl) (pt_1 Try.underlying3 rfl rfl) (eqv_i Try.underlying3) <| fe_cons rfl (pt_1 Try.underlying31 rfl rfl) (pt_1 Try.underlying31 rfl rfl) (eqv_i Try.underlying31) <| fe_nil))) ?_
                    refine rg_take 11 rfl rfl (by kernel_rfl) (by kernel_rfl) (by kernel_rfl) (want_y rfl rfl rfl rfl (by rw [hg13_4]; rfl)) (fun w hok => x_pickT (tmB rfl rfl) hg13_7 (tmB rfl rfl)) ?_
                    refine rg_take 12 rfl rfl (by kernel_rfl) (by kernel_rfl) (by kernel_rfl) (want_0) (fun w hok => x_pickF (tmB rfl rfl) hg13_4 (tmB rfl rfl)) ?_
                    refine rg_take 13 rfl rfl (by kernel_rfl) (by kernel_rfl) (by kernel_rfl) (want_0) (fun w hok => x_move (tmB rfl rfl)) ?_
                    refine gs_rg (tm (t := 78) rfl) (fun hg13_13 => ?_) (fun hg13_13 => ?_)
                    · exfalso
                      first
                        | (rcases hfin with ⟨h, _⟩ | ⟨_, _, h⟩
                           · rw [h] at hg13_7
                             cases hg13_7
                           · rw [h] at hg13_13
                             exact absurd hg13_13 (by decide))
                        | (rw [hg13_7] at hg13_13
                           cases hg13_13)
                    have hg13_13' := hg13_13; (try simp only [nrm] at hg13_13'); try (exfalso; first | with_reducible exact absurd hg13_13 Bool.false_ne_true | with_reducible exact absurd hg13_13.symm Bool.false_ne_true | omega | (simp at hg13_13; done))
                    all_goals
                     refine rg_take 14 rfl rfl (by kernel_rfl) (by kernel_rfl) (by kernel_rfl) (want_y rfl rfl rfl rfl (by rw [hg13_13]; rfl)) (fun w hok => x_move (tmB rfl rfl)) ?_
                     refine rg_take 15 rfl rfl (by kernel_rfl) (by kernel_rfl) (by kernel_rfl) (want_y rfl rfl rfl rfl (by rw [hg13_13]; rfl)) (fun w hok => x_move (tmB rfl rfl)) ?_
                     refine gs_rg (tm (t := 80) rfl) (fun hg13_15 => ?_) (fun hg13_15 => ?_)
                     · have hg13_15' := hg13_15; (try simp only [nrm] at hg13_15'); try (exfalso; first | with_reducible exact absurd hg13_15 Bool.false_ne_true | with_reducible exact absurd hg13_15.symm Bool.false_ne_true | omega | (simp at hg13_15; done))
                       all_goals
                        obtain ⟨i, rfl, hi, he, hf⟩ : ∃ i : Nat, z = (i : Int) ∧ i < li.length ∧ L.getD i default = x ∧ FitsP way L li.length a b x := by
                          rcases hfin with ⟨_, h⟩ | ⟨h, _⟩
                          · exact h
                          · rw [h] at hg13_15; cases hg13_15
                        first
                         | refine rg_take 16 rfl rfl (by kernel_rfl) (by kernel_rfl) (by kernel_rfl) (want_y rfl rfl rfl rfl (by rw [hg13_15]; rfl)) (fun w hok => x_loadA (cs := [_, _, _, _]) Try.underlying33 rfl ts_33 (tmP rfl rfl) (rangeB hok 4 rfl rfl)) ?_
                         | refine rg_take 16 rfl rfl (by kernel_rfl) (by kernel_rfl) (by kernel_rfl) (want_y rfl rfl rfl rfl (by rw [hg13_15]; rfl)) (fun w hok => x_loadA Try.underlying33 rfl (by exact ts_33) (tmP rfl rfl) (rangeVs hok 1 rfl (fun _ => rfl) (by omega))) ?_
                         | refine rg_take 16 rfl rfl (by kernel_rfl) (by kernel_rfl) (by kernel_rfl) (want_y rfl rfl rfl rfl (by rw [hg13_15]; rfl)) (fun w hok => x_loadA Try.underlying33 rfl (by exact ts_33) (tmP rfl rfl) (rangeRs hok 2 rfl (fun _ => rfl) (by omega))) ?_
                         | refine rg_take 16 rfl rfl (by kernel_rfl) (by kernel_rfl) (by kernel_rfl) (want_y rfl rfl rfl rfl (by rw [hg13_15]; rfl)) (fun w hok => x_loadA Try.underlying33 rfl (by exact ts_33) (tmP rfl rfl) (rangeVs hok 6 rfl (fun _ => rfl) (by omega))) ?_
                         | refine rg_take 16 rfl rfl (by kernel_rfl) (by kernel_rfl) (by kernel_rfl) (want_y rfl rfl rfl rfl (by rw [hg13_15]; rfl)) (fun w hok => x_loadA Try.underlying33 rfl (by exact ts_33) (tmP rfl rfl) (rangeVs hok 8 rfl (fun _ => rfl) (by omega))) ?_
                        refine rg_take 17 rfl rfl (by kernel_rfl) (by kernel_rfl) (by kernel_rfl) (want_y rfl rfl rfl rfl (by rw [hg13_15]; rfl)) (fun w hok => x_fa 1 Try.underlying46 rfl rfl ts_30 (tmP rfl rfl)) ?_
                        first
                         | refine rg_take 18 rfl rfl (by kernel_rfl) (by kernel_rfl) (by kernel_rfl) (want_y rfl rfl rfl rfl (by rw [hg13_15]; rfl)) (fun w hok => x_load Try.underlying30 rfl (tmP rfl rfl) (cellB hok 5 rfl rfl)) ?_
                         | refine rg_take 18 rfl rfl (by kernel_rfl) (by kernel_rfl) (by kernel_rfl) (want_y rfl rfl rfl rfl (by rw [hg13_15]; rfl)) (fun w hok => x_load Try.underlying30 rfl (tmP rfl rfl) (cellB hok 5 rfl (getm (by omega)))) ?_
                        refine rg_take 20 rfl rfl (by kernel_rfl) (by kernel_rfl) (by kernel_rfl) (want_y rfl rfl rfl rfl (by rw [hg13_15]; rfl)) (fun w hok => x_move (tmI rfl rfl)) ?_
                        refine rg_step 19 rfl (by kernel_rfl) (want_y rfl rfl rfl rfl (by rw [hg13_15]; rfl)) (oks_drop hS 0 rfl) ?_; intro K hK
                        refine ow_call Try.func16 rfl rfl (evs_cons (tmS rfl rfl) <| evs_nil) (to21_c li.length Ai ci L _ (view_on hvi hS.kp) hLl (by omega)) ?_
                        rintro e w ⟨A3, c3, rfl, hn3, hk3⟩
                        refine ⟨_, rfl, ?_⟩
                        replace hS := hS.add hk3 hn3 -- +r3
                        clear hn3 hk3
                        obtain ⟨gA, rfl⟩ := row_some (hS.rowOk 0 rfl) (by omega)
                        refine hK _ _ ?_; clear hK K
                        refine rg_take 21 rfl rfl (by kernel_rfl) (by kernel_rfl) (by kernel_rfl) (want_y rfl rfl rfl rfl (by rw [hg13_15]; rfl)) (fun w hok => x_ixs Try.underlying36 ts_33 (tmS rfl rfl) (tmI rfl rfl) (by omega)) ?_
                        refine rg_step 22 rfl (by kernel_rfl) (want_y rfl rfl rfl rfl (by rw [hg13_15]; rfl)) (oks_drop hS 1 rfl) ?_; intro K hK
                        refine ow_v (x_loadA Try.underlying33 rfl (by exact ts_33) (tmP rfl rfl) (rangeRs (enc := cnV) hS.ok 0 rfl cnV_len (by omega))) ?_
                        refine hK _ _ ?_; clear hK K
                        refine rg_take 23 rfl rfl (by kernel_rfl) (by kernel_rfl) (by kernel_rfl) (want_y rfl rfl rfl rfl (by rw [hg13_15]; rfl)) (fun w hok => x_Aneq (by kernel_rfl) (tmA rfl rfl) (tmA rfl rfl) (eqv_A Try.underlying33 (by kernel_rfl) (fe_cons rfl (pt_1 Try.underlying3 rfl rfl) (pt_1 Try.underlying3 rfl rfl) (eqv_i Try.underlying3) <| fe_cons rfl (pt_1 Try.underlying3 rfl rfl) (pt_1 Try.underlying3 rfl rfl) (eqv_i Try.underlying3) <| fe_cons rfl (pt_1 Try.underlying3 rfl rfl) (pt_1 Try.underlying3 rfl rfl) (eqv_i Try.underlying3) <| fe_cons rfl (pt_1 Try.underlying31 rfl rfl) (pt_1 Try.underlying31 rfl rfl) (eqv_i Try.underlying31) <| fe_nil))) ?_
                        refine rg_take 24 rfl rfl (by kernel_rfl) (by kernel_rfl) (by kernel_rfl) (want_y rfl rfl rfl rfl (by rw [hg13_13]; rfl)) (fun w hok => x_pickT (tmB rfl rfl) hg13_15 (tmB rfl rfl)) ?_
                        refine rg_take 25 rfl rfl (by kernel_rfl) (by kernel_rfl) (by kernel_rfl) (want_0) (fun w hok => x_pickF (tmB rfl rfl) hg13_13 (tmB rfl rfl)) ?_
                        refine rg_take 26 rfl rfl (by kernel_rfl) (by kernel_rfl) (by kernel_rfl) (want_0) (fun w hok => x_move (tmB rfl rfl)) ?_
                        refine gs_rg (tm (t := 91) rfl) (fun hg13_26 => ?_) (fun hg13_26 => ?_)
                        · exfalso
                          first
                            | (rw [he] at hg13_26
                               simp at hg13_26
                               done)
                            | (rw [hg13_15] at hg13_26
                               cases hg13_26)
                        have hg13_26' := hg13_26; (try simp only [nrm] at hg13_26'); try (exfalso; first | with_reducible exact absurd hg13_26 Bool.false_ne_true | with_reducible exact absurd hg13_26.symm Bool.false_ne_true | omega | (simp at hg13_26; done))
                        all_goals
                         refine rg_take 27 rfl rfl (by kernel_rfl) (by kernel_rfl) (by kernel_rfl) (want_y rfl rfl rfl rfl (by rw [hg13_26]; rfl)) (fun w hok => x_move (tmB rfl rfl)) ?_
                         refine rg_take 28 rfl rfl (by kernel_rfl) (by kernel_rfl) (by kernel_rfl) (want_y rfl rfl rfl rfl (by rw [hg13_26]; rfl)) (fun w hok => x_move (tmB rfl rfl)) ?_
                         refine gs_rg (tm (t := 93) rfl) (fun hg13_28 => ?_) (fun hg13_28 => ?_)
                         · have hg13_28' := hg13_28; (try simp only [nrm] at hg13_28'); try (exfalso; first | with_reducible exact absurd hg13_28 Bool.false_ne_true | with_reducible exact absurd hg13_28.symm Bool.false_ne_true | omega | (simp at hg13_28; done))
                           all_goals
                            refine rg_take 29 rfl rfl (by kernel_rfl) (by kernel_rfl) (by kernel_rfl) (want_y rfl rfl rfl rfl (by rw [hg13_28]; rfl)) (fun w hok => x_fa 0 Try.underlying46 rfl rfl ts_3 (tmP rfl rfl)) ?_
                            first
                             | refine rg_take 30 rfl rfl (by kernel_rfl) (by kernel_rfl) (by kernel_rfl) (want_y rfl rfl rfl rfl (by rw [hg13_28]; rfl)) (fun w hok => x_load Try.underlying3 rfl (tmP rfl rfl) (cellB hok 5 rfl rfl)) ?_
                             | refine rg_take 30 rfl rfl (by kernel_rfl) (by kernel_rfl) (by kernel_rfl) (want_y rfl rfl rfl rfl (by rw [hg13_28]; rfl)) (fun w hok => x_load Try.underlying3 rfl (tmP rfl rfl) (cellB hok 5 rfl (getm (by omega)))) ?_
                            refine rg_take 31 rfl rfl (by kernel_rfl) (by kernel_rfl) (by kernel_rfl) (want_y rfl rfl rfl rfl (by rw [hg13_28]; rfl)) (fun w hok => x_fa 1 Try.underlying46 rfl rfl ts_30 (tmP rfl rfl)) ?_
                            first
                             | refine rg_take 32 rfl rfl (by kernel_rfl) (by kernel_rfl) (by kernel_rfl) (want_y rfl rfl rfl rfl (by rw [hg13_28]; rfl)) (fun w hok => x_load Try.underlying30 rfl (tmP rfl rfl) (cellB hok 5 rfl rfl)) ?_
                             | refine rg_take 32 rfl rfl (by kernel_rfl) (by kernel_rfl) (by kernel_rfl) (want_y rfl rfl rfl rfl (by rw [hg13_28]; rfl)) (fun w hok => x_load Try.underlying30 rfl (tmP rfl rfl) (cellB hok 5 rfl (getm (by omega)))) ?_
                            refine rg_take 34 rfl rfl (by kernel_rfl) (by kernel_rfl) (by kernel_rfl) (want_y rfl rfl rfl rfl (by rw [hg13_28]; rfl)) (fun w hok => x_fa 2 Try.underlying46 rfl rfl ts_31 (tmP rfl rfl)) ?_
                            first
                             | refine rg_take 35 rfl rfl (by kernel_rfl) (by kernel_rfl) (by kernel_rfl) (want_y rfl rfl rfl rfl (by rw [hg13_28]; rfl)) (fun w hok => x_load Try.underlying31 rfl (tmP rfl rfl) (cellB hok 5 rfl rfl)) ?_
                             | refine rg_take 35 rfl rfl (by kernel_rfl) (by kernel_rfl) (by kernel_rfl) (want_y rfl rfl rfl rfl (by rw [hg13_28]; rfl)) (fun w hok => x_load Try.underlying31 rfl (tmP rfl rfl) (cellB hok 5 rfl (getm (by omega)))) ?_
                            refine rg_take 36 rfl rfl (by kernel_rfl) (by kernel_rfl) (by kernel_rfl) (want_y rfl rfl rfl rfl (by rw [hg13_28]; rfl)) (fun w hok => x_fa 3 Try.underlying46 rfl rfl ts_31 (tmP rfl rfl)) ?_
                            first
                             | refine rg_take 37 rfl rfl (by kernel_rfl) (by kernel_rfl) (by kernel_rfl) (want_y rfl rfl rfl rfl (by rw [hg13_28]; rfl)) (fun w hok => x_load Try.underlying31 rfl (tmP rfl rfl) (cellB hok 5 rfl rfl)) ?_
                             | refine rg_take 37 rfl rfl (by kernel_rfl) (by kernel_rfl) (by kernel_rfl) (want_y rfl rfl rfl rfl (by rw [hg13_28]; rfl)) (fun w hok => x_load Try.underlying31 rfl (tmP rfl rfl) (cellB hok 5 rfl (getm (by omega)))) ?_
                            first
                             | refine rg_take 38 rfl rfl (by kernel_rfl) (by kernel_rfl) (by kernel_rfl) (want_y rfl rfl rfl rfl (by rw [hg13_28]; rfl)) (fun w hok => x_loadA (cs := [_, _, _, _]) Try.underlying33 rfl ts_33 (tmP rfl rfl) (rangeB hok 4 rfl rfl)) ?_
                             | refine rg_take 38 rfl rfl (by kernel_rfl) (by kernel_rfl) (by kernel_rfl) (want_y rfl rfl rfl rfl (by rw [hg13_28]; rfl)) (fun w hok => x_loadA Try.underlying33 rfl (by exact ts_33) (tmP rfl rfl) (rangeVs hok 1 rfl (fun _ => rfl) (by omega))) ?_
                             | refine rg_take 38 rfl rfl (by kernel_rfl) (by kernel_rfl) (by kernel_rfl) (want_y rfl rfl rfl rfl (by rw [hg13_28]; rfl)) (fun w hok => x_loadA Try.underlying33 rfl (by exact ts_33) (tmP rfl rfl) (rangeRs hok 2 rfl (fun _ => rfl) (by omega))) ?_
                             | refine rg_take 38 rfl rfl (by kernel_rfl) (by kernel_rfl) (by kernel_rfl) (want_y rfl rfl rfl rfl (by rw [hg13_28]; rfl)) (fun w hok => x_loadA Try.underlying33 rfl (by exact ts_33) (tmP rfl rfl) (rangeVs hok 6 rfl (fun _ => rfl) (by omega))) ?_
                             | refine rg_take 38 rfl rfl (by kernel_rfl) (by kernel_rfl) (by kernel_rfl) (want_y rfl rfl rfl rfl (by rw [hg13_28]; rfl)) (fun w hok => x_loadA Try.underlying33 rfl (by exact ts_33) (tmP rfl rfl) (rangeVs hok 8 rfl (fun _ => rfl) (by omega))) ?_
                            refine rg_step 33 rfl (by kernel_rfl) (want_y rfl rfl rfl rfl (by rw [hg13_28]; rfl)) (oks_drop hS 1 rfl) ?_; intro K hK
                            refine ow_call Try.func16 rfl rfl (evs_cons (tmS rfl rfl) <| evs_nil) (to21_c li.length Ai ci L _ (view_on hvi hS.kp) hLl (by omega)) ?_
                            rintro e w ⟨A4, c4, rfl, hn4, hk4⟩
                            refine ⟨_, rfl, ?_⟩
                            replace hS := hS.add hk4 hn4 -- +r4
                            clear hn4 hk4
                            refine hK _ _ ?_; clear hK K
                            refine rg_step 39 rfl (by kernel_rfl) (want_y rfl rfl rfl rfl (by rw [hg13_28]; rfl)) (oks_drop hS 2 rfl) ?_; intro K hK
                            refine ow_call Try.func15 rfl rfl (evs_cons (tmI rfl rfl) <| evs_cons (tmS rfl rfl) <| evs_cons (tmI rfl rfl) <| evs_cons (tmI rfl rfl) <| evs_cons (tmA rfl rfl) <| evs_nil) (fits_j way li.length A4 c4 L a b x _ (viewR hS.ok 0 rfl) hLl (by omega) ha hb) ?_
                            rintro e w ⟨r, rfl, hr, hk4⟩
                            refine ⟨_, rfl, ?_⟩
                            replace hS := hS.kept hk4
                            clear hk4
                            have hrt : r = true := by
                              first
                                | exact hr.2 hf
                                | (rw [hg13_15] at hg13_28; cases hg13_28)
                            subst hrt
                            refine hK _ _ ?_; clear hK K
                            refine rg_take 40 rfl rfl (by kernel_rfl) (by kernel_rfl) (by kernel_rfl) (want_y rfl rfl rfl rfl (by rw [hg13_28]; rfl)) (fun w hok => x_not (tmB rfl rfl)) ?_
                            refine rg_take 41 rfl rfl (by kernel_rfl) (by kernel_rfl) (by kernel_rfl) (want_y rfl rfl rfl rfl (by rw [hg13_26]; rfl)) (fun w hok => x_pickT (tmB rfl rfl) hg13_28 (tmB rfl rfl)) ?_
                            refine rg_take 42 rfl rfl (by kernel_rfl) (by kernel_rfl) (by kernel_rfl) (want_0) (fun w hok => x_pickF (tmB rfl rfl) hg13_26 (tmB rfl rfl)) ?_
                            refine rg_done (oks_drop hS 2 rfl) (by kernel_rfl) ?_
                            exact then_n ⟨_, rfl, (by repeat (first | exact agree_self | exact agree_refl | refine agree_upd rfl ?_ | refine agree_mix rfl ?_)), (by first | rfl | (first | rfl | exact congrArg Value.bool hg13_28 | exact congrArg Value.bool (by simp [*]); done) | (first | rfl | exact congrArg Value.bool hg13_28 | exact congrArg Value.bool (by simp [*]); rfl) | (first | rfl | exact congrArg Value.bool hg13_28 | exact congrArg Value.bool (by simp [*]); go_num)), (hS.pick [3, 4, 9, 5, 10] rfl rfl)⟩
                         have hg13_28' := hg13_28; (try simp only [nrm] at hg13_28'); try (exfalso; first | with_reducible exact absurd hg13_28 Bool.false_ne_true | with_reducible exact absurd hg13_28.symm Bool.false_ne_true | omega | (simp at hg13_28; done))
                         all_goals
                          refine rg_skip 29 rfl rfl (by kernel_rfl) (by kernel_rfl) (by kernel_rfl) (want_n rfl rfl rfl rfl (by rw [hg13_28]; rfl)) ?_
                          refine rg_skip 30 rfl rfl (by kernel_rfl) (by kernel_rfl) (by kernel_rfl) (want_n rfl rfl rfl rfl (by rw [hg13_28]; rfl)) ?_
                          refine rg_skip 31 rfl rfl (by kernel_rfl) (by kernel_rfl) (by kernel_rfl) (want_n rfl rfl rfl rfl (by rw [hg13_28]; rfl)) ?_
                          refine rg_skip 32 rfl rfl (by kernel_rfl) (by kernel_rfl) (by kernel_rfl) (want_n rfl rfl rfl rfl (by rw [hg13_28]; rfl)) ?_
                          refine rg_skip 33 rfl rfl (by kernel_rfl) (by kernel_rfl) (by kernel_rfl) (want_n rfl rfl rfl rfl (by rw [hg13_28]; rfl)) ?_
                          refine rg_skip 34 rfl rfl (by kernel_rfl) (by kernel_rfl) (by kernel_rfl) (want_n rfl rfl rfl rfl (by rw [hg13_28]; rfl)) ?_
                          refine rg_skip 35 rfl rfl (by kernel_rfl) (by kernel_rfl) (by kernel_rfl) (want_n rfl rfl rfl rfl (by rw [hg13_28]; rfl)) ?_
                          refine rg_skip 36 rfl rfl (by kernel_rfl) (by kernel_rfl) (by kernel_rfl) (want_n rfl rfl rfl rfl (by rw [hg13_28]; rfl)) ?_
                          refine rg_skip 37 rfl rfl (by kernel_rfl) (by kernel_rfl) (by kernel_rfl) (want_n rfl rfl rfl rfl (by rw [hg13_28]; rfl)) ?_
                          refine rg_skip 38 rfl rfl (by kernel_rfl) (by kernel_rfl) (by kernel_rfl) (want_n rfl rfl rfl rfl (by rw [hg13_28]; rfl)) ?_
                          refine rg_skip 39 rfl rfl (by kernel_rfl) (by kernel_rfl) (by kernel_rfl) (want_n rfl rfl rfl rfl (by rw [hg13_28]; rfl)) ?_
                          refine rg_skip 40 rfl rfl (by kernel_rfl) (by kernel_rfl) (by kernel_rfl) (want_n rfl rfl rfl rfl (by rw [hg13_28]; rfl)) ?_
                          refine rg_take 41 rfl rfl (by kernel_rfl) (by kernel_rfl) (by kernel_rfl) (want_y rfl rfl rfl rfl (by rw [hg13_26]; rfl)) (fun w hok => x_pickF (tmB rfl rfl) hg13_28 ev_c) ?_
                          refine rg_take 42 rfl rfl (by kernel_rfl) (by kernel_rfl) (by kernel_rfl) (want_0) (fun w hok => x_pickF (tmB rfl rfl) hg13_26 (tmB rfl rfl)) ?_
                          refine rg_done (oks_drop hS 1 rfl) (by kernel_rfl) ?_
                          exact then_n ⟨_, rfl, (by repeat (first | exact agree_self | exact agree_refl | refine agree_upd rfl ?_ | refine agree_mix rfl ?_)), (by first | rfl | (first | rfl | exact congrArg Value.bool hg13_28 | exact congrArg Value.bool (by simp [*]); done) | (first | rfl | exact congrArg Value.bool hg13_28 | exact congrArg Value.bool (by simp [*]); rfl) | (first | rfl | exact congrArg Value.bool hg13_28 | exact congrArg Value.bool (by simp [*]); go_num)), (hS.pick [2, 3, 8, 4, 9] rfl rfl)⟩
                     have hg13_15' := hg13_15; (try simp only [nrm] at hg13_15'); try (exfalso; first | with_reducible exact absurd hg13_15 Bool.false_ne_true | with_reducible exact absurd hg13_15.symm Bool.false_ne_true | omega | (simp at hg13_15; done))
                     all_goals
                      refine rg_skip 16 rfl rfl (by kernel_rfl) (by kernel_rfl) (by kernel_rfl) (want_n rfl rfl rfl rfl (by rw [hg13_15]; rfl)) ?_
                      refine rg_skip 17 rfl rfl (by kernel_rfl) (by kernel_rfl) (by kernel_rfl) (want_n rfl rfl rfl rfl (by rw [hg13_15]; rfl)) ?_
                      refine rg_skip 18 rfl rfl (by kernel_rfl) (by kernel_rfl) (by kernel_rfl) (want_n rfl rfl rfl rfl (by rw [hg13_15]; rfl)) ?_
                      refine rg_skip 19 rfl rfl (by kernel_rfl) (by kernel_rfl) (by kernel_rfl) (want_n rfl rfl rfl rfl (by rw [hg13_15]; rfl)) ?_
                      refine rg_skip 20 rfl rfl (by kernel_rfl) (by kernel_rfl) (by kernel_rfl) (want_n rfl rfl rfl rfl (by rw [hg13_15]; rfl)) ?_
                      refine rg_skip 21 rfl rfl (by kernel_rfl) (by kernel_rfl) (by kernel_rfl) (want_n rfl rfl rfl rfl (by rw [hg13_15]; rfl)) ?_
                      refine rg_skip 22 rfl rfl (by kernel_rfl) (by kernel_rfl) (by kernel_rfl) (want_n rfl rfl rfl rfl (by rw [hg13_15]; rfl)) ?_
                      refine rg_skip 23 rfl rfl (by kernel_rfl) (by kernel_rfl) (by kernel_rfl) (want_n rfl rfl rfl rfl (by rw [hg13_15]; rfl)) ?_
                      refine rg_take 24 rfl rfl (by kernel_rfl) (by kernel_rfl) (by kernel_rfl) (want_y rfl rfl rfl rfl (by rw [hg13_13]; rfl)) (fun w hok => x_pickF (tmB rfl rfl) hg13_15 ev_c) ?_
                      refine rg_take 25 rfl rfl (by kernel_rfl) (by kernel_rfl) (by kernel_rfl) (want_0) (fun w hok => x_pickF (tmB rfl rfl) hg13_13 (tmB rfl rfl)) ?_
                      refine rg_take 26 rfl rfl (by kernel_rfl) (by kernel_rfl) (by kernel_rfl) (want_0) (fun w hok => x_move (tmB rfl rfl)) ?_
                      refine rg_take 27 rfl rfl (by kernel_rfl) (by kernel_rfl) (by kernel_rfl) (want_y rfl rfl rfl rfl rfl) (fun w hok => x_move (tmB rfl rfl)) ?_
                      refine rg_take 28 rfl rfl (by kernel_rfl) (by kernel_rfl) (by kernel_rfl) (want_y rfl rfl rfl rfl rfl) (fun w hok => x_move (tmB rfl rfl)) ?_
                      refine gs_rg (tm (t := 93) rfl) (fun hg13_28 => ?_) (fun hg13_28 => ?_)
                      · have hg13_28' := hg13_28; (try simp only [nrm] at hg13_28'); try (exfalso; first | with_reducible exact absurd hg13_28 Bool.false_ne_true | with_reducible exact absurd hg13_28.symm Bool.false_ne_true | omega | (simp at hg13_28; done))
                        all_goals
                         refine rg_take 29 rfl rfl (by kernel_rfl) (by kernel_rfl) (by kernel_rfl) (want_y rfl rfl rfl rfl (by rw [hg13_28]; rfl)) (fun w hok => x_fa 0 Try.underlying46 rfl rfl ts_3 (tmP rfl rfl)) ?_
                         first
                          | refine rg_take 30 rfl rfl (by kernel_rfl) (by kernel_rfl) (by kernel_rfl) (want_y rfl rfl rfl rfl (by rw [hg13_28]; rfl)) (fun w hok => x_load Try.underlying3 rfl (tmP rfl rfl) (cellB hok 5 rfl rfl)) ?_
                          | refine rg_take 30 rfl rfl (by kernel_rfl) (by kernel_rfl) (by kernel_rfl) (want_y rfl rfl rfl rfl (by rw [hg13_28]; rfl)) (fun w hok => x_load Try.underlying3 rfl (tmP rfl rfl) (cellB hok 5 rfl (getm (by omega)))) ?_
                         refine rg_take 31 rfl rfl (by kernel_rfl) (by kernel_rfl) (by kernel_rfl) (want_y rfl rfl rfl rfl (by rw [hg13_28]; rfl)) (fun w hok => x_fa 1 Try.underlying46 rfl rfl ts_30 (tmP rfl rfl)) ?_
                         first
                          | refine rg_take 32 rfl rfl (by kernel_rfl) (by kernel_rfl) (by kernel_rfl) (want_y rfl rfl rfl rfl (by rw [hg13_28]; rfl)) (fun w hok => x_load Try.underlying30 rfl (tmP rfl rfl) (cellB hok 5 rfl rfl)) ?_
                          | refine rg_take 32 rfl rfl (by kernel_rfl) (by kernel_rfl) (by kernel_rfl) (want_y rfl rfl rfl rfl (by rw [hg13_28]; rfl)) (fun w hok => x_load Try.underlying30 rfl (tmP rfl rfl) (cellB hok 5 rfl (getm (by omega)))) ?_
                         refine rg_take 34 rfl rfl (by kernel_rfl) (by kernel_rfl) (by kernel_rfl) (want_y rfl rfl rfl rfl (by rw [hg13_28]; rfl)) (fun w hok => x_fa 2 Try.underlying46 rfl rfl ts_31 (tmP rfl rfl)) ?_
                         first
                          | refine rg_take 35 rfl rfl (by kernel_rfl) (by kernel_rfl) (by kernel_rfl) (want_y rfl rfl rfl rfl (by rw [hg13_28]; rfl)) (fun w hok => x_load Try.underlying31 rfl (tmP rfl rfl) (cellB hok 5 rfl rfl)) ?_
                          | refine rg_take 35 rfl rfl (by kernel_rfl) (by kernel_rfl) (by kernel_rfl) (want_y rfl rfl rfl rfl (by rw [hg13_28]; rfl)) (fun w hok => x_load Try.underlying31 rfl (tmP rfl rfl) (cellB hok 5 rfl (getm (by omega)))) ?_
                         refine rg_take 36 rfl rfl (by kernel_rfl) (by kernel_rfl) (by kernel_rfl) (want_y rfl rfl rfl rfl (by rw [hg13_28]; rfl)) (fun w hok => x_fa 3 Try.underlying46 rfl rfl ts_31 (tmP rfl rfl)) ?_
                         first
                          | refine rg_take 37 rfl rfl (by kernel_rfl) (by kernel_rfl) (by kernel_rfl) (want_y rfl rfl rfl rfl (by rw [hg13_28]; rfl)) (fun w hok => x_load Try.underlying31 rfl (tmP rfl rfl) (cellB hok 5 rfl rfl)) ?_
                          | refine rg_take 37 rfl rfl (by kernel_rfl) (by kernel_rfl) (by kernel_rfl) (want_y rfl rfl rfl rfl (by rw [hg13_28]; rfl)) (fun w hok => x_load Try.underlying31 rfl (tmP rfl rfl) (cellB hok 5 rfl (getm (by omega)))) ?_
                         first
                          | refine rg_take 38 rfl rfl (by kernel_rfl) (by kernel_rfl) (by kernel_rfl) (want_y rfl rfl rfl rfl (by rw [hg13_28]; rfl)) (fun w hok => x_loadA (cs := [_, _, _, _]) Try.underlying33 rfl ts_33 (tmP rfl rfl) (rangeB hok 4 rfl rfl)) ?_
                          | refine rg_take 38 rfl rfl (by kernel_rfl) (by kernel_rfl) (by kernel_rfl) (want_y rfl rfl rfl rfl (by rw [hg13_28]; rfl)) (fun w hok => x_loadA Try.underlying33 rfl (by exact ts_33) (tmP rfl rfl) (rangeVs hok 1 rfl (fun _ => rfl) (by omega))) ?_
                          | refine rg_take 38 rfl rfl (by kernel_rfl) (by kernel_rfl) (by kernel_rfl) (want_y rfl rfl rfl rfl (by rw [hg13_28]; rfl)) (fun w hok => x_loadA Try.underlying33 rfl (by exact ts_33) (tmP rfl rfl) (rangeRs hok 2 rfl (fun _ => rfl) (by omega))) ?_
                          | refine rg_take 38 rfl rfl (by kernel_rfl) (by kernel_rfl) (by kernel_rfl) (want_y rfl rfl rfl rfl (by rw [hg13_28]; rfl)) (fun w hok => x_loadA Try.underlying33 rfl (by exact ts_33) (tmP rfl rfl) (rangeVs hok 6 rfl (fun _ => rfl) (by omega))) ?_
                          | refine rg_take 38 rfl rfl (by kernel_rfl) (by kernel_rfl) (by kernel_rfl) (want_y rfl rfl rfl rfl (by rw [hg13_28]; rfl)) (fun w hok => x_loadA Try.underlying33 rfl (by exact ts_33) (tmP rfl rfl) (rangeVs hok 8 rfl (fun _ => rfl) (by omega))) ?_
                         refine rg_step 33 rfl (by kernel_rfl) (want_y rfl rfl rfl rfl (by rw [hg13_28]; rfl)) (oks_drop hS 0 rfl) ?_; intro K hK
                         refine ow_call Try.func16 rfl rfl (evs_cons (tmS rfl rfl) <| evs_nil) (to21_c li.length Ai ci L _ (view_on hvi hS.kp) hLl (by omega)) ?_
                         rintro e w ⟨A4, c4, rfl, hn4, hk4⟩
                         refine ⟨_, rfl, ?_⟩
                         replace hS := hS.add hk4 hn4 -- +r4
                         clear hn4 hk4
                         refine hK _ _ ?_; clear hK K
                         refine rg_step 39 rfl (by kernel_rfl) (want_y rfl rfl rfl rfl (by rw [hg13_28]; rfl)) (oks_drop hS 1 rfl) ?_; intro K hK
                         refine ow_call Try.func15 rfl rfl (evs_cons (tmI rfl rfl) <| evs_cons (tmS rfl rfl) <| evs_cons (tmI rfl rfl) <| evs_cons (tmI rfl rfl) <| evs_cons (tmA rfl rfl) <| evs_nil) (fits_j way li.length A4 c4 L a b x _ (viewR hS.ok 0 rfl) hLl (by omega) ha hb) ?_
                         rintro e w ⟨r, rfl, hr, hk4⟩
                         refine ⟨_, rfl, ?_⟩
                         replace hS := hS.kept hk4
                         clear hk4
                         have hrt : r = true := by
                           first
                             | exact hr.2 hf
                             | (rw [hg13_15] at hg13_28; cases hg13_28)
                         subst hrt
                         refine hK _ _ ?_; clear hK K
                         refine rg_take 40 rfl rfl (by kernel_rfl) (by kernel_rfl) (by kernel_rfl) (want_y rfl rfl rfl rfl (by rw [hg13_28]; rfl)) (fun w hok => x_not (tmB rfl rfl)) ?_
                         refine rg_take 41 rfl rfl (by kernel_rfl) (by kernel_rfl) (by kernel_rfl) (want_y rfl rfl rfl rfl rfl) (fun w hok => x_pickT (tmB rfl rfl) hg13_28 (tmB rfl rfl)) ?_
                         refine rg_take 42 rfl rfl (by kernel_rfl) (by kernel_rfl) (by kernel_rfl) (want_0) (fun w hok => x_pickF (tmB rfl rfl) rfl (tmB rfl rfl)) ?_
                         refine rg_done (oks_drop hS 1 rfl) (by kernel_rfl) ?_
                         exact then_n ⟨_, rfl, (by repeat (first | exact agree_self | exact agree_refl | refine agree_upd rfl ?_ | refine agree_mix rfl ?_)), (by first | rfl | (first | rfl | exact congrArg Value.bool hg13_28 | exact congrArg Value.bool (by simp [*]); done) | (first | rfl | exact congrArg Value.bool hg13_28 | exact congrArg Value.bool (by simp [*]); rfl) | (first | rfl | exact congrArg Value.bool hg13_28 | exact congrArg Value.bool (by simp [*]); go_num)), (hS.pick [2, 3, 8, 4, 9] rfl rfl)⟩
                      have hg13_28' := hg13_28; (try simp only [nrm] at hg13_28'); try (exfalso; first | with_reducible exact absurd hg13_28 Bool.false_ne_true | with_reducible exact absurd hg13_28.symm Bool.false_ne_true | omega | (simp at hg13_28; done))
                      all_goals
                       refine rg_skip 29 rfl rfl (by kernel_rfl) (by kernel_rfl) (by kernel_rfl) (want_n rfl rfl rfl rfl (by rw [hg13_28]; rfl)) ?_
                       refine rg_skip 30 rfl rfl (by kernel_rfl) (by kernel_rfl) (by kernel_rfl) (want_n rfl rfl rfl rfl (by rw [hg13_28]; rfl)) ?_
                       refine rg_skip 31 rfl rfl (by kernel_rfl) (by kernel_rfl) (by kernel_rfl) (want_n rfl rfl rfl rfl (by rw [hg13_28]; rfl)) ?_
                       refine rg_skip 32 rfl rfl (by kernel_rfl) (by kernel_rfl) (by kernel_rfl) (want_n rfl rfl rfl rfl (by rw [hg13_28]; rfl)) ?_
                       refine rg_skip 33 rfl rfl (by kernel_rfl) (by kernel_rfl) (by kernel_rfl) (want_n rfl rfl rfl rfl (by rw [hg13_28]; rfl)) ?_
                       refine rg_skip 34 rfl rfl (by kernel_rfl) (by kernel_rfl) (by kernel_rfl) (want_n rfl rfl rfl rfl (by rw [hg13_28]; rfl)) ?_
                       refine rg_skip 35 rfl rfl (by kernel_rfl) (by kernel_rfl) (by kernel_rfl) (want_n rfl rfl rfl rfl (by rw [hg13_28]; rfl)) ?_
                       refine rg_skip 36 rfl rfl (by kernel_rfl) (by kernel_rfl) (by kernel_rfl) (want_n rfl rfl rfl rfl (by rw [hg13_28]; rfl)) ?_
                       refine rg_skip 37 rfl rfl (by kernel_rfl) (by kernel_rfl) (by kernel_rfl) (want_n rfl rfl rfl rfl (by rw [hg13_28]; rfl)) ?_
                       refine rg_skip 38 rfl rfl (by kernel_rfl) (by kernel_rfl) (by kernel_rfl) (want_n rfl rfl rfl rfl (by rw [hg13_28]; rfl)) ?_
                       refine rg_skip 39 rfl rfl (by kernel_rfl) (by kernel_rfl) (by kernel_rfl) (want_n rfl rfl rfl rfl (by rw [hg13_28]; rfl)) ?_
                       refine rg_skip 40 rfl rfl (by kernel_rfl) (by kernel_rfl) (by kernel_rfl) (want_n rfl rfl rfl rfl (by rw [hg13_28]; rfl)) ?_
                       refine rg_take 41 rfl rfl (by kernel_rfl) (by kernel_rfl) (by kernel_rfl) (want_y rfl rfl rfl rfl rfl) (fun w hok => x_pickF (tmB rfl rfl) hg13_28 ev_c) ?_
                       refine rg_take 42 rfl rfl (by kernel_rfl) (by kernel_rfl) (by kernel_rfl) (want_0) (fun w hok => x_pickF (tmB rfl rfl) rfl (tmB rfl rfl)) ?_
                       refine rg_done (oks_drop hS 0 rfl) (by kernel_rfl) ?_
                       exact then_n ⟨_, rfl, (by repeat (first | exact agree_self | exact agree_refl | refine agree_upd rfl ?_ | refine agree_mix rfl ?_)), (by first | rfl | (first | rfl | exact congrArg Value.bool hg13_28 | exact congrArg Value.bool (by simp [*]); done) | (first | rfl | exact congrArg Value.bool hg13_28 | exact congrArg Value.bool (by simp [*]); rfl) | (first | rfl | exact congrArg Value.bool hg13_28 | exact congrArg Value.bool (by simp [*]); go_num)), (hS.pick [1, 2, 7, 3, 8] rfl rfl)⟩
                 have hg13_7' := hg13_7; (try simp only [nrm] at hg13_7'); try (exfalso; first | with_reducible exact absurd hg13_7 Bool.false_ne_true | with_reducible exact absurd hg13_7.symm Bool.false_ne_true | omega | (simp at hg13_7; done))
                 all_goals
                  refine rg_skip 8 rfl rfl (by kernel_rfl) (by kernel_rfl) (by kernel_rfl) (want_n rfl rfl rfl rfl (by rw [hg13_7]; rfl)) ?_
                  refine rg_skip 9 rfl rfl (by kernel_rfl) (by kernel_rfl) (by kernel_rfl) (want_n rfl rfl rfl rfl (by rw [hg13_7]; rfl)) ?_
                  refine rg_skip 10 rfl rfl (by kernel_rfl) (by kernel_rfl) (by kernel_rfl) (want_n rfl rfl rfl rfl (by rw [hg13_7]; rfl)) ?_
                  refine rg_take 11 rfl rfl (by kernel_rfl) (by kernel_rfl) (by kernel_rfl) (want_y rfl rfl rfl rfl (by rw [hg13_4]; rfl)) (fun w hok => x_pickF (tmB rfl rfl) hg13_7 ev_c) ?_
                  refine rg_take 12 rfl rfl (by kernel_rfl) (by kernel_rfl) (by kernel_rfl) (want_0) (fun w hok => x_pickF (tmB rfl rfl) hg13_4 (tmB rfl rfl)) ?_
                  refine rg_take 13 rfl rfl (by kernel_rfl) (by kernel_rfl) (by kernel_rfl) (want_0) (fun w hok => x_move (tmB rfl rfl)) ?_
                  refine rg_take 14 rfl rfl (by kernel_rfl) (by kernel_rfl) (by kernel_rfl) (want_y rfl rfl rfl rfl rfl) (fun w hok => x_move (tmB rfl rfl)) ?_
                  refine rg_take 15 rfl rfl (by kernel_rfl) (by kernel_rfl) (by kernel_rfl) (want_y rfl rfl rfl rfl rfl) (fun w hok => x_move (tmB rfl rfl)) ?_
                  refine gs_rg (tm (t := 80) rfl) (fun hg13_15 => ?_) (fun hg13_15 => ?_)
                  · have hg13_15' := hg13_15; (try simp only [nrm] at hg13_15'); try (exfalso; first | with_reducible exact absurd hg13_15 Bool.false_ne_true | with_reducible exact absurd hg13_15.symm Bool.false_ne_true | omega | (simp at hg13_15; done))
                    all_goals
                     obtain ⟨i, rfl, hi, he, hf⟩ : ∃ i : Nat, z = (i : Int) ∧ i < li.length ∧ L.getD i default = x ∧ FitsP way L li.length a b x := by
                       rcases hfin with ⟨_, h⟩ | ⟨h, _⟩
                       · exact h
                       · rw [h] at hg13_15; cases hg13_15
                     first
                      | refine rg_take 16 rfl rfl (by kernel_rfl) (by kernel_rfl) (by kernel_rfl) (want_y rfl rfl rfl rfl (by rw [hg13_15]; rfl)) (fun w hok => x_loadA (cs := [_, _, _, _]) Try.underlying33 rfl ts_33 (tmP rfl rfl) (rangeB hok 4 rfl rfl)) ?_
                      | refine rg_take 16 rfl rfl (by kernel_rfl) (by kernel_rfl) (by kernel_rfl) (want_y rfl rfl rfl rfl (by rw [hg13_15]; rfl)) (fun w hok => x_loadA Try.underlying33 rfl (by exact ts_33) (tmP rfl rfl) (rangeVs hok 1 rfl (fun _ => rfl) (by omega))) ?_
                      | refine rg_take 16 rfl rfl (by kernel_rfl) (by kernel_rfl) (by kernel_rfl) (want_y rfl rfl rfl rfl (by rw [hg13_15]; rfl)) (fun w hok => x_loadA Try.underlying33 rfl (by exact ts_33) (tmP rfl rfl) (rangeRs hok 2 rfl (fun _ => rfl) (by omega))) ?_
                      | refine rg_take 16 rfl rfl (by kernel_rfl) (by kernel_rfl) (by kernel_rfl) (want_y rfl rfl rfl rfl (by rw [hg13_15]; rfl)) (fun w hok => x_loadA Try.underlying33 rfl (by exact ts_33) (tmP rfl rfl) (rangeVs hok 6 rfl (fun _ => rfl) (by omega))) ?_
                      | refine rg_take 16 rfl rfl (by kernel_rfl) (by kernel_rfl) (by kernel_rfl) (want_y rfl rfl rfl rfl (by rw [hg13_15]; rfl)) (fun w hok => x_loadA Try.underlying33 rfl (by exact ts_33) (tmP rfl rfl) (rangeVs hok 8 rfl (fun _ => rfl) (by omega))) ?_
                     refine rg_take 17 rfl rfl (by kernel_rfl) (by kernel_rfl) (by kernel_rfl) (want_y rfl rfl rfl rfl (by rw [hg13_15]; rfl)) (fun w hok => x_fa 1 Try.underlying46 rfl rfl ts_30 (tmP rfl rfl)) ?_
                     first
                      | refine rg_take 18 rfl rfl (by kernel_rfl) (by kernel_rfl) (by kernel_rfl) (want_y rfl rfl rfl rfl (by rw [hg13_15]; rfl)) (fun w hok => x_load Try.underlying30 rfl (tmP rfl rfl) (cellB hok 5 rfl rfl)) ?_
                      | refine rg_take 18 rfl rfl (by kernel_rfl) (by kernel_rfl) (by kernel_rfl) (want_y rfl rfl rfl rfl (by rw [hg13_15]; rfl)) (fun w hok => x_load Try.underlying30 rfl (tmP rfl rfl) (cellB hok 5 rfl (getm (by omega)))) ?_
                     refine rg_take 20 rfl rfl (by kernel_rfl) (by kernel_rfl) (by kernel_rfl) (want_y rfl rfl rfl rfl (by rw [hg13_15]; rfl)) (fun w hok => x_move (tmI rfl rfl)) ?_
                     refine rg_step 19 rfl (by kernel_rfl) (want_y rfl rfl rfl rfl (by rw [hg13_15]; rfl)) (oks_drop hS 0 rfl) ?_; intro K hK
                     refine ow_call Try.func16 rfl rfl (evs_cons (tmS rfl rfl) <| evs_nil) (to21_c li.length Ai ci L _ (view_on hvi hS.kp) hLl (by omega)) ?_
                     rintro e w ⟨A3, c3, rfl, hn3, hk3⟩
                     refine ⟨_, rfl, ?_⟩
                     replace hS := hS.add hk3 hn3 -- +r3
                     clear hn3 hk3
                     obtain ⟨gA, rfl⟩ := row_some (hS.rowOk 0 rfl) (by omega)
                     refine hK _ _ ?_; clear hK K
                     refine rg_take 21 rfl rfl (by kernel_rfl) (by kernel_rfl) (by kernel_rfl) (want_y rfl rfl rfl rfl (by rw [hg13_15]; rfl)) (fun w hok => x_ixs Try.underlying36 ts_33 (tmS rfl rfl) (tmI rfl rfl) (by omega)) ?_
                     refine rg_step 22 rfl (by kernel_rfl) (want_y rfl rfl rfl rfl (by rw [hg13_15]; rfl)) (oks_drop hS 1 rfl) ?_; intro K hK
                     refine ow_v (x_loadA Try.underlying33 rfl (by exact ts_33) (tmP rfl rfl) (rangeRs (enc := cnV) hS.ok 0 rfl cnV_len (by omega))) ?_
                     refine hK _ _ ?_; clear hK K
                     refine rg_take 23 rfl rfl (by kernel_rfl) (by kernel_rfl) (by kernel_rfl) (want_y rfl rfl rfl rfl (by rw [hg13_15]; rfl)) (fun w hok => x_Aneq (by kernel_rfl) (tmA rfl rfl) (tmA rfl rfl) (eqv_A Try.underlying33 (by kernel_rfl) (fe_cons rfl (pt_1 Try.underlying3 rfl rfl) (pt_1 Try.underlying3 rfl rfl) (eqv_i Try.underlying3) <| fe_cons rfl (pt_1 Try.underlying3 rfl rfl) (pt_1 Try.underlying3 rfl rfl) (eqv_i Try.underlying3) <| fe_cons rfl (pt_1 Try.underlying3 rfl rfl) (pt_1 Try.underlying3 rfl rfl) (eqv_i Try.underlying3) <| fe_cons rfl (pt_1 Try.underlying31 rfl rfl) (pt_1 Try.underlying31 rfl rfl) (eqv_i Try.underlying31) <| fe_nil))) ?_
                     refine rg_take 24 rfl rfl (by kernel_rfl) (by kernel_rfl) (by kernel_rfl) (want_y rfl rfl rfl rfl rfl) (fun w hok => x_pickT (tmB rfl rfl) hg13_15 (tmB rfl rfl)) ?_
                     refine rg_take 25 rfl rfl (by kernel_rfl) (by kernel_rfl) (by kernel_rfl) (want_0) (fun w hok => x_pickF (tmB rfl rfl) rfl (tmB rfl rfl)) ?_
                     refine rg_take 26 rfl rfl (by kernel_rfl) (by kernel_rfl) (by kernel_rfl) (want_0) (fun w hok => x_move (tmB rfl rfl)) ?_
                     refine gs_rg (tm (t := 91) rfl) (fun hg13_26 => ?_) (fun hg13_26 => ?_)
                     · exfalso
                       first
                         | (rw [he] at hg13_26
                            simp at hg13_26
                            done)
                         | (rw [hg13_15] at hg13_26
                            cases hg13_26)
                     have hg13_26' := hg13_26; (try simp only [nrm] at hg13_26'); try (exfalso; first | with_reducible exact absurd hg13_26 Bool.false_ne_true | with_reducible exact absurd hg13_26.symm Bool.false_ne_true | omega | (simp at hg13_26; done))
                     all_goals
                      refine rg_take 27 rfl rfl (by kernel_rfl) (by kernel_rfl) (by kernel_rfl) (want_y rfl rfl rfl rfl (by rw [hg13_26]; rfl)) (fun w hok => x_move (tmB rfl rfl)) ?_
                      refine rg_take 28 rfl rfl (by kernel_rfl) (by kernel_rfl) (by kernel_rfl) (want_y rfl rfl rfl rfl (by rw [hg13_26]; rfl)) (fun w hok => x_move (tmB rfl rfl)) ?_
                      refine gs_rg (tm (t := 93) rfl) (fun hg13_28 => ?_) (fun hg13_28 => ?_)
                      · have hg13_28' := hg13_28; (try simp only [nrm] at hg13_28'); try (exfalso; first | with_reducible exact absurd hg13_28 Bool.false_ne_true | with_reducible exact absurd hg13_28.symm Bool.false_ne_true | omega | (simp at hg13_28; done))
                        all_goals
                         refine rg_take 29 rfl rfl (by kernel_rfl) (by kernel_rfl) (by kernel_rfl) (want_y rfl rfl rfl rfl (by rw [hg13_28]; rfl)) (fun w hok => x_fa 0 Try.underlying46 rfl rfl ts_3 (tmP rfl rfl)) ?_
                         first
                          | refine rg_take 30 rfl rfl (by kernel_rfl) (by kernel_rfl) (by kernel_rfl) (want_y rfl rfl rfl rfl (by rw [hg13_28]; rfl)) (fun w hok => x_load Try.underlying3 rfl (tmP rfl rfl) (cellB hok 5 rfl rfl)) ?_
                          | refine rg_take 30 rfl rfl (by kernel_rfl) (by kernel_rfl) (by kernel_rfl) (want_y rfl rfl rfl rfl (by rw [hg13_28]; rfl)) (fun w hok => x_load Try.underlying3 rfl (tmP rfl rfl) (cellB hok 5 rfl (getm (by omega)))) ?_
                         refine rg_take 31 rfl rfl (by kernel_rfl) (by kernel_rfl) (by kernel_rfl) (want_y rfl rfl rfl rfl (by rw [hg13_28]; rfl)) (fun w hok => x_fa 1 Try.underlying46 rfl rfl ts_30 (tmP rfl rfl)) ?_
                         first
                          | refine rg_take 32 rfl rfl (by kernel_rfl) (by kernel_rfl) (by kernel_rfl) (want_y rfl rfl rfl rfl (by rw [hg13_28]; rfl)) (fun w hok => x_load Try.underlying30 rfl (tmP rfl rfl) (cellB hok 5 rfl rfl)) ?_
                          | refine rg_take 32 rfl rfl (by kernel_rfl) (by kernel_rfl) (by kernel_rfl) (want_y rfl rfl rfl rfl (by rw [hg13_28]; rfl)) (fun w hok => x_load Try.underlying30 rfl (tmP rfl rfl) (cellB hok 5 rfl (getm (by omega)))) ?_
                         refine rg_take 34 rfl rfl (by kernel_rfl) (by kernel_rfl) (by kernel_rfl) (want_y rfl rfl rfl rfl (by rw [hg13_28]; rfl)) (fun w hok => x_fa 2 Try.underlying46 rfl rfl ts_31 (tmP rfl rfl)) ?_
                         first
                          | refine rg_take 35 rfl rfl (by kernel_rfl) (by kernel_rfl) (by kernel_rfl) (want_y rfl rfl rfl rfl (by rw [hg13_28]; rfl)) (fun w hok => x_load Try.underlying31 rfl (tmP rfl rfl) (cellB hok 5 rfl rfl)) ?_
                          | refine rg_take 35 rfl rfl (by kernel_rfl) (by kernel_rfl) (by kernel_rfl) (want_y rfl rfl rfl rfl (by rw [hg13_28]; rfl)) (fun w hok => x_load Try.underlying31 rfl (tmP rfl rfl) (cellB hok 5 rfl (getm (by omega)))) ?_
                         refine rg_take 36 rfl rfl (by kernel_rfl) (by kernel_rfl) (by kernel_rfl) (want_y rfl rfl rfl rfl (by rw [hg13_28]; rfl)) (fun w hok => x_fa 3 Try.underlying46 rfl rfl ts_31 (tmP rfl rfl)) ?_
                         first
                          | refine rg_take 37 rfl rfl (by kernel_rfl) (by kernel_rfl) (by kernel_rfl) (want_y rfl rfl rfl rfl (by rw [hg13_28]; rfl)) (fun w hok => x_load Try.underlying31 rfl (tmP rfl rfl) (cellB hok 5 rfl rfl)) ?_
                          | refine rg_take 37 rfl rfl (by kernel_rfl) (by kernel_rfl) (by kernel_rfl) (want_y rfl rfl rfl rfl (by rw [hg13_28]; rfl)) (fun w hok => x_load Try.underlying31 rfl (tmP rfl rfl) (cellB hok 5 rfl (getm (by omega)))) ?_
                         first
                          | refine rg_take 38 rfl rfl (by kernel_rfl) (by kernel_rfl) (by kernel_rfl) (want_y rfl rfl rfl rfl (by rw [hg13_28]; rfl)) (fun w hok => x_loadA (cs := [_, _, _, _]) Try.underlying33 rfl ts_33 (tmP rfl rfl) (rangeB hok 4 rfl rfl)) ?_
                          | refine rg_take 38 rfl rfl (by kernel_rfl) (by kernel_rfl) (by kernel_rfl) (want_y rfl rfl rfl rfl (by rw [hg13_28]; rfl)) (fun w hok => x_loadA Try.underlying33 rfl (by exact ts_33) (tmP rfl rfl) (rangeVs hok 1 rfl (fun _ => rfl) (by omega))) ?_
                          | refine rg_take 38 rfl rfl (by kernel_rfl) (by kernel_rfl) (by kernel_rfl) (want_y rfl rfl rfl rfl (by rw [hg13_28]; rfl)) (fun w hok => x_loadA Try.underlying33 rfl (by exact ts_33) (tmP rfl rfl) (rangeRs hok 2 rfl (fun _ => rfl) (by omega))) ?_
                          | refine rg_take 38 rfl rfl (by kernel_rfl) (by kernel_rfl) (by kernel_rfl) (want_y rfl rfl rfl rfl (by rw [hg13_28]; rfl)) (fun w hok => x_loadA Try.underlying33 rfl (by exact ts_33) (tmP rfl rfl) (rangeVs hok 6 rfl (fun _ => rfl) (by omega))) ?_
                          | refine rg_take 38 rfl rfl (by kernel_rfl) (by kernel_rfl) (by kernel_rfl) (want_y rfl rfl rfl rfl (by rw [hg13_28]; rfl)) (fun w hok => x_loadA Try.underlying33 rfl (by exact ts_33) (tmP rfl rfl) (rangeVs hok 8 rfl (fun _ => rfl) (by omega))) ?_
                         refine rg_step 33 rfl (by kernel_rfl) (want_y rfl rfl rfl rfl (by rw [hg13_28]; rfl)) (oks_drop hS 1 rfl) ?_; intro K hK
                         refine ow_call Try.func16 rfl rfl (evs_cons (tmS rfl rfl) <| evs_nil) (to21_c li.length Ai ci L _ (view_on hvi hS.kp) hLl (by omega)) ?_
                         rintro e w ⟨A4, c4, rfl, hn4, hk4⟩
                         refine ⟨_, rfl, ?_⟩
                         replace hS := hS.add hk4 hn4 -- +r4
                         clear hn4 hk4
                         refine hK _ _ ?_; clear hK K
                         refine rg_step 39 rfl (by kernel_rfl) (want_y rfl rfl rfl rfl (by rw [hg13_28]; rfl)) (oks_drop hS 2 rfl) ?_; intro K hK
                         refine ow_call Try.func15 rfl rfl (evs_cons (tmI rfl rfl) <| evs_cons (tmS rfl rfl) <| evs_cons (tmI rfl rfl) <| evs_cons (tmI rfl rfl) <| evs_cons (tmA rfl rfl) <| evs_nil) (fits_j way li.length A4 c4 L a b x _ (viewR hS.ok 0 rfl) hLl (by omega) ha hb) ?_
                         rintro e w ⟨r, rfl, hr, hk4⟩
                         refine ⟨_, rfl, ?_⟩
                         replace hS := hS.kept hk4
                         clear hk4
                         have hrt : r = true := by
                           first
                             | exact hr.2 hf
                             | (rw [hg13_15] at hg13_28; cases hg13_28)
                         subst hrt
                         refine hK _ _ ?_; clear hK K
                         refine rg_take 40 rfl rfl (by kernel_rfl) (by kernel_rfl) (by kernel_rfl) (want_y rfl rfl rfl rfl (by rw [hg13_28]; rfl)) (fun w hok => x_not (tmB rfl rfl)) ?_
                         refine rg_take 41 rfl rfl (by kernel_rfl) (by kernel_rfl) (by kernel_rfl) (want_y rfl rfl rfl rfl (by rw [hg13_26]; rfl)) (fun w hok => x_pickT (tmB rfl rfl) hg13_28 (tmB rfl rfl)) ?_
                         refine rg_take 42 rfl rfl (by kernel_rfl) (by kernel_rfl) (by kernel_rfl) (want_0) (fun w hok => x_pickF (tmB rfl rfl) hg13_26 (tmB rfl rfl)) ?_
                         refine rg_done (oks_drop hS 2 rfl) (by kernel_rfl) ?_
                         exact then_n ⟨_, rfl, (by repeat (first | exact agree_self | exact agree_refl | refine agree_upd rfl ?_ | refine agree_mix rfl ?_)), (by first | rfl | (first | rfl | exact congrArg Value.bool hg13_28 | exact congrArg Value.bool (by simp [*]); done) | (first | rfl | exact congrArg Value.bool hg13_28 | exact congrArg Value.bool (by simp [*]); rfl) | (first | rfl | exact congrArg Value.bool hg13_28 | exact congrArg Value.bool (by simp [*]); go_num)), (hS.pick [3, 4, 9, 5, 10] rfl rfl)⟩
                      have hg13_28' := hg13_28; (try simp only [nrm] at hg13_28'); try (exfalso; first | with_reducible exact absurd hg13_28 Bool.false_ne_true | with_reducible exact absurd hg13_28.symm Bool.false_ne_true | omega | (simp at hg13_28; done))
                      all_goals
                       refine rg_skip 29 rfl rfl (by kernel_rfl) (by kernel_rfl) (by kernel_rfl) (want_n rfl rfl rfl rfl (by rw [hg13_28]; rfl)) ?_
                       refine rg_skip 30 rfl rfl (by kernel_rfl) (by kernel_rfl) (by kernel_rfl) (want_n rfl rfl rfl rfl (by rw [hg13_28]; rfl)) ?_
                       refine rg_skip 31 rfl rfl (by kernel_rfl) (by kernel_rfl) (by kernel_rfl) (want_n rfl rfl rfl rfl (by rw [hg13_28]; rfl)) ?_
                       refine rg_skip 32 rfl rfl (by kernel_rfl) (by kernel_rfl) (by kernel_rfl) (want_n rfl rfl rfl rfl (by rw [hg13_28]; rfl)) ?_
                       refine rg_skip 33 rfl rfl (by kernel_rfl) (by kernel_rfl) (by kernel_rfl) (want_n rfl rfl rfl rfl (by rw [hg13_28]; rfl)) ?_
                       refine rg_skip 34 rfl rfl (by kernel_rfl) (by kernel_rfl) (by kernel_rfl) (want_n rfl rfl rfl rfl (by rw [hg13_28]; rfl)) ?_
                       refine rg_skip 35 rfl rfl (by kernel_rfl) (by kernel_rfl) (by kernel_rfl) (want_n rfl rfl rfl rfl (by rw [hg13_28]; rfl)) ?_
                       refine rg_skip 36 rfl rfl (by kernel_rfl) (by kernel_rfl) (by kernel_rfl) (want_n rfl rfl rfl rfl (by rw [hg13_28]; rfl)) ?_
                       refine rg_skip 37 rfl rfl (by kernel_rfl) (by kernel_rfl) (by kernel_rfl) (want_n rfl rfl rfl rfl (by rw [hg13_28]; rfl)) ?_
                       refine rg_skip 38 rfl rfl (by kernel_rfl) (by kernel_rfl) (by kernel_rfl) (want_n rfl rfl rfl rfl (by rw [hg13_28]; rfl)) ?_
                       refine rg_skip 39 rfl rfl (by kernel_rfl) (by kernel_rfl) (by kernel_rfl) (want_n rfl rfl rfl rfl (by rw [hg13_28]; rfl)) ?_
                       refine rg_skip 40 rfl rfl (by kernel_rfl) (by kernel_rfl) (by kernel_rfl) (want_n rfl rfl rfl rfl (by rw [hg13_28]; rfl)) ?_
                       refine rg_take 41 rfl rfl (by kernel_rfl) (by kernel_rfl) (by kernel_rfl) (want_y rfl rfl rfl rfl (by rw [hg13_26]; rfl)) (fun w hok => x_pickF (tmB rfl rfl) hg13_28 ev_c) ?_
                       refine rg_take 42 rfl rfl (by kernel_rfl) (by kernel_rfl) (by kernel_rfl) (want_0) (fun w hok => x_pickF (tmB rfl rfl) hg13_26 (tmB rfl rfl)) ?_
                       refine rg_done (oks_drop hS 1 rfl) (by kernel_rfl) ?_
                       exact then_n ⟨_, rfl, (by repeat (first | exact agree_self | exact agree_refl | refine agree_upd rfl ?_ | refine agree_mix rfl ?_)), (by first | rfl | (first | rfl | exact congrArg Value.bool hg13_28 | exact congrArg Value.bool (by simp [*]); done) | (first | rfl | exact congrArg Value.bool hg13_28 | exact congrArg Value.bool (by simp [*]); rfl) | (first | rfl | exact congrArg Value.bool hg13_28 | exact congrArg Value.bool (by simp [*]); go_num)), (hS.pick [2, 3, 8, 4, 9] rfl rfl)⟩
                  have hg13_15' := hg13_15; (try simp only [nrm] at hg13_15'); try (exfalso; first | with_reducible exact absurd hg13_15 Bool.false_ne_true | with_reducible exact absurd hg13_15.symm Bool.false_ne_true | omega | (simp at hg13_15; done))
                  all_goals
                   refine rg_skip 16 rfl rfl (by kernel_rfl) (by kernel_rfl) (by kernel_rfl) (want_n rfl rfl rfl rfl (by rw [hg13_15]; rfl)) ?_
                   refine rg_skip 17 rfl rfl (by kernel_rfl) (by kernel_rfl) (by kernel_rfl) (want_n rfl rfl rfl rfl (by rw [hg13_15]; rfl)) ?_
                   refine rg_skip 18 rfl rfl (by kernel_rfl) (by kernel_rfl) (by kernel_rfl) (want_n rfl rfl rfl rfl (by rw [hg13_15]; rfl)) ?_
                   refine rg_skip 19 rfl rfl (by kernel_rfl) (by kernel_rfl) (by kernel_rfl) (want_n rfl rfl rfl rfl (by rw [hg13_15]; rfl)) ?_
                   refine rg_skip 20 rfl rfl (by kernel_rfl) (by kernel_rfl) (by kernel_rfl) (want_n rfl rfl rfl rfl (by rw [hg13_15]; rfl)) ?_
                   refine rg_skip 21 rfl rfl (by kernel_rfl) (by kernel_rfl) (by kernel_rfl) (want_n rfl rfl rfl rfl (by rw [hg13_15]; rfl)) ?_
                   refine rg_skip 22 rfl rfl (by kernel_rfl) (by kernel_rfl) (by kernel_rfl) (want_n rfl rfl rfl rfl (by rw [hg13_15]; rfl)) ?_
                   refine rg_skip 23 rfl rfl (by kernel_rfl) (by kernel_rfl) (by kernel_rfl) (want_n rfl rfl rfl rfl (by rw [hg13_15]; rfl)) ?_
                   refine rg_take 24 rfl rfl (by kernel_rfl) (by kernel_rfl) (by kernel_rfl) (want_y rfl rfl rfl rfl rfl) (fun w hok => x_pickF (tmB rfl rfl) hg13_15 ev_c) ?_
                   refine rg_take 25 rfl rfl (by kernel_rfl) (by kernel_rfl) (by kernel_rfl) (want_0) (fun w hok => x_pickF (tmB rfl rfl) rfl (tmB rfl rfl)) ?_
                   refine rg_take 26 rfl rfl (by kernel_rfl) (by kernel_rfl) (by kernel_rfl) (want_0) (fun w hok => x_move (tmB rfl rfl)) ?_
                   refine rg_take 27 rfl rfl (by kernel_rfl) (by kernel_rfl) (by kernel_rfl) (want_y rfl rfl rfl rfl rfl) (fun w hok => x_move (tmB rfl rfl)) ?_
                   refine rg_take 28 rfl rfl (by kernel_rfl) (by kernel_rfl) (by kernel_rfl) (want_y rfl rfl rfl rfl rfl) (fun w hok => x_move (tmB rfl rfl)) ?_
                   refine gs_rg (tm (t := 93) rfl) (fun hg13_28 => ?_) (fun hg13_28 => ?_)
                   · have hg13_28' := hg13_28; (try simp only [nrm] at hg13_28'); try (exfalso; first | with_reducible exact absurd hg13_28 Bool.false_ne_true | with_reducible exact absurd hg13_28.symm Bool.false_ne_true | omega | (simp at hg13_28; done))
                     all_goals
                      refine rg_take 29 rfl rfl (by kernel_rfl) (by kernel_rfl) (by kernel_rfl) (want_y rfl rfl rfl rfl (by rw [hg13_28]; rfl)) (fun w hok => x_fa 0 Try.underlying46 rfl rfl ts_3 (tmP rfl rfl)) ?_
                      first
                       | refine rg_take 30 rfl rfl (by kernel_rfl) (by kernel_rfl) (by kernel_rfl) (want_y rfl rfl rfl rfl (by rw [hg13_28]; rfl)) (fun w hok => x_load Try.underlying3 rfl (tmP rfl rfl) (cellB hok 5 rfl rfl)) ?_
                       | refine rg_take 30 rfl rfl (by kernel_rfl) (by kernel_rfl) (by kernel_rfl) (want_y rfl rfl rfl rfl (by rw [hg13_28]; rfl)) (fun w hok => x_load Try.underlying3 rfl (tmP rfl rfl) (cellB hok 5 rfl (getm (by omega)))) ?_
                      refine rg_take 31 rfl rfl (by kernel_rfl) (by kernel_rfl) (by kernel_rfl) (want_y rfl rfl rfl rfl (by rw [hg13_28]; rfl)) (fun w hok => x_fa 1 Try.underlying46 rfl rfl ts_30 (tmP rfl rfl)) ?_
                      first
                       | refine rg_take 32 rfl rfl (by kernel_rfl) (by kernel_rfl) (by kernel_rfl) (want_y rfl rfl rfl rfl (by rw [hg13_28]; rfl)) (fun w hok => x_load Try.underlying30 rfl (tmP rfl rfl) (cellB hok 5 rfl rfl)) ?_
                       | refine rg_take 32 rfl rfl (by kernel_rfl) (by kernel_rfl) (by kernel_rfl) (want_y rfl rfl rfl rfl (by rw [hg13_28]; rfl)) (fun w hok => x_load Try.underlying30 rfl (tmP rfl rfl) (cellB hok 5 rfl (getm (by omega)))) ?_
                      refine rg_take 34 rfl rfl (by kernel_rfl) (by kernel_rfl) (by kernel_rfl) (want_y rfl rfl rfl rfl (by rw [hg13_28]; rfl)) (fun w hok => x_fa 2 Try.underlying46 rfl rfl ts_31 (tmP rfl rfl)) ?_
                      first
                       | refine rg_take 35 rfl rfl (by kernel_rfl) (by kernel_rfl) (by kernel_rfl) (want_y rfl rfl rfl rfl (by rw [hg13_28]; rfl)) (fun w hok => x_load Try.underlying31 rfl (tmP rfl rfl) (cellB hok 5 rfl rfl)) ?_
                       | refine rg_take 35 rfl rfl (by kernel_rfl) (by kernel_rfl) (by kernel_rfl) (want_y rfl rfl rfl rfl (by rw [hg13_28]; rfl)) (fun w hok => x_load Try.underlying31 rfl (tmP rfl rfl) (cellB hok 5 rfl (getm (by omega)))) ?_
                      refine rg_take 36 rfl rfl (by kernel_rfl) (by kernel_rfl) (by kernel_rfl) (want_y rfl rfl rfl rfl (by rw [hg13_28]; rfl)) (fun w hok => x_fa 3 Try.underlying46 rfl rfl ts_31 (tmP rfl rfl)) ?_
                      first
                       | refine rg_take 37 rfl rfl (by kernel_rfl) (by kernel_rfl) (by kernel_rfl) (want_y rfl rfl rfl rfl (by rw [hg13_28]; rfl)) (fun w hok => x_load Try.underlying31 rfl (tmP rfl rfl) (cellB hok 5 rfl rfl)) ?_
                       | refine rg_take 37 rfl rfl (by kernel_rfl) (by kernel_rfl) (by kernel_rfl) (want_y rfl rfl rfl rfl (by rw [hg13_28]; rfl)) (fun w hok => x_load Try.underlying31 rfl (tmP rfl rfl) (cellB hok 5 rfl (getm (by omega)))) ?_
                      first
                       | refine rg_take 38 rfl rfl (by kernel_rfl) (by kernel_rfl) (by kernel_rfl) (want_y rfl rfl rfl rfl (by rw [hg13_28]; rfl)) (fun w hok => x_loadA (cs := [_, _, _, _]) Try.underlying33 rfl ts_33 (tmP rfl rfl) (rangeB hok 4 rfl rfl)) ?_
                       | refine rg_take 38 rfl rfl (by kernel_rfl) (by kernel_rfl) (by kernel_rfl) (want_y rfl rfl rfl rfl (by rw [hg13_28]; rfl)) (fun w hok => x_loadA Try.underlying33 rfl (by exact ts_33) (tmP rfl rfl) (rangeVs hok 1 rfl (fun _ => rfl) (by omega))) ?_
                       | refine rg_take 38 rfl rfl (by kernel_rfl) (by kernel_rfl) (by kernel_rfl) (want_y rfl rfl rfl rfl (by rw [hg13_28]; rfl)) (fun w hok => x_loadA Try.underlying33 rfl (by exact ts_33) (tmP rfl rfl) (rangeRs hok 2 rfl (fun _ => rfl) (by omega))) ?_
                       | refine rg_take 38 rfl rfl (by kernel_rfl) (by kernel_rfl) (by kernel_rfl) (want_y rfl rfl rfl rfl (by rw [hg13_28]; rfl)) (fun w hok => x_loadA Try.underlying33 rfl (by exact ts_33) (tmP rfl rfl) (rangeVs hok 6 rfl (fun _ => rfl) (by omega))) ?_
                       | refine rg_take 38 rfl rfl (by kernel_rfl) (by kernel_rfl) (by kernel_rfl) (want_y rfl rfl rfl rfl (by rw [hg13_28]; rfl)) (fun w hok => x_loadA Try.underlying33 rfl (by exact ts_33) (tmP rfl rfl) (rangeVs hok 8 rfl (fun _ => rfl) (by omega))) ?_
                      refine rg_step 33 rfl (by kernel_rfl) (want_y rfl rfl rfl rfl (by rw [hg13_28]; rfl)) (oks_drop hS 0 rfl) ?_; intro K hK
                      refine ow_call Try.func16 rfl rfl (evs_cons (tmS rfl rfl) <| evs_nil) (to21_c li.length Ai ci L _ (view_on hvi hS.kp) hLl (by omega)) ?_
                      rintro e w ⟨A4, c4, rfl, hn4, hk4⟩
                      refine ⟨_, rfl, ?_⟩
                      replace hS := hS.add hk4 hn4 -- +r4
                      clear hn4 hk4
                      refine hK _ _ ?_; clear hK K
                      refine rg_step 39 rfl (by kernel_rfl) (want_y rfl rfl rfl rfl (by rw [hg13_28]; rfl)) (oks_drop hS 1 rfl) ?_; intro K hK
                      refine ow_call Try.func15 rfl rfl (evs_cons (tmI rfl rfl) <| evs_cons (tmS rfl rfl) <| evs_cons (tmI rfl rfl) <| evs_cons (tmI rfl rfl) <| evs_cons (tmA rfl rfl) <| evs_nil) (fits_j way li.length A4 c4 L a b x _ (viewR hS.ok 0 rfl) hLl (by omega) ha hb) ?_
                      rintro e w ⟨r, rfl, hr, hk4⟩
                      refine ⟨_, rfl, ?_⟩
                      replace hS := hS.kept hk4
                      clear hk4
                      have hrt : r = true := by
                        first
                          | exact hr.2 hf
                          | (rw [hg13_15] at hg13_28; cases hg13_28)
                      subst hrt
                      refine hK _ _ ?_; clear hK K
                      refine rg_take 40 rfl rfl (by kernel_rfl) (by kernel_rfl) (by kernel_rfl) (want_y rfl rfl rfl rfl (by rw [hg13_28]; rfl)) (fun w hok => x_not (tmB rfl rfl)) ?_
                      refine rg_take 41 rfl rfl (by kernel_rfl) (by kernel_rfl) (by kernel_rfl) (want_y rfl rfl rfl rfl rfl) (fun w hok => x_pickT (tmB rfl rfl) hg13_28 (tmB rfl rfl)) ?_
                      refine rg_take 42 rfl rfl (by kernel_rfl) (by kernel_rfl) (by kernel_rfl) (want_0) (fun w hok => x_pickF (tmB rfl rfl) rfl (tmB rfl rfl)) ?_
                      refine rg_done (oks_drop hS 1 rfl) (by kernel_rfl) ?_
                      exact then_n ⟨_, rfl, (by repeat (first | exact agree_self | exact agree_refl | refine agree_upd rfl ?_ | refine agree_mix rfl ?_)), (by first | rfl | (first | rfl | exact congrArg Value.bool hg13_28 | exact congrArg Value.bool (by simp [*]); done) | (first | rfl | exact congrArg Value.bool hg13_28 | exact congrArg Value.bool (by simp [*]); rfl) | (first | rfl | exact congrArg Value.bool hg13_28 | exact congrArg Value.bool (by simp [*]); go_num)), (hS.pick [2, 3, 8, 4, 9] rfl rfl)⟩
                   have hg13_28' := hg13_28; (try simp only [nrm] at hg13_28'); try (exfalso; first | with_reducible exact absurd hg13_28 Bool.false_ne_true | with_reducible exact absurd hg13_28.symm Bool.false_ne_true | omega | (simp at hg13_28; done))
                   all_goals
                    refine rg_skip 29 rfl rfl (by kernel_rfl) (by kernel_rfl) (by kernel_rfl) (want_n rfl rfl rfl rfl (by rw [hg13_28]; rfl)) ?_
                    refine rg_skip 30 rfl rfl (by kernel_rfl) (by kernel_rfl) (by kernel_rfl) (want_n rfl rfl rfl rfl (by rw [hg13_28]; rfl)) ?_
                    refine rg_skip 31 rfl rfl (by kernel_rfl) (by kernel_rfl) (by kernel_rfl) (want_n rfl rfl rfl rfl (by rw [hg13_28]; rfl)) ?_
                    refine rg_skip 32 rfl rfl (by kernel_rfl) (by kernel_rfl) (by kernel_rfl) (want_n rfl rfl rfl rfl (by rw [hg13_28]; rfl)) ?_
                    refine rg_skip 33 rfl rfl (by kernel_rfl) (by kernel_rfl) (by kernel_rfl) (want_n rfl rfl rfl rfl (by rw [hg13_28]; rfl)) ?_
                    refine rg_skip 34 rfl rfl (by kernel_rfl) (by kernel_rfl) (by kernel_rfl) (want_n rfl rfl rfl rfl (by rw [hg13_28]; rfl)) ?_
                    refine rg_skip 35 rfl rfl (by kernel_rfl) (by kernel_rfl) (by kernel_rfl) (want_n rfl rfl rfl rfl (by rw [hg13_28]; rfl)) ?_
                    refine rg_skip 36 rfl rfl (by kernel_rfl) (by kernel_rfl) (by kernel_rfl) (want_n rfl rfl rfl rfl (by rw [hg13_28]; rfl)) ?_
                    refine rg_skip 37 rfl rfl (by kernel_rfl) (by kernel_rfl) (by kernel_rfl) (want_n rfl rfl rfl rfl (by rw [hg13_28]; rfl)) ?_
                    refine rg_skip 38 rfl rfl (by kernel_rfl) (by kernel_rfl) (by kernel_rfl) (want_n rfl rfl rfl rfl (by rw [hg13_28]; rfl)) ?_
                    refine rg_skip 39 rfl rfl (by kernel_rfl) (by kernel_rfl) (by kernel_rfl) (want_n rfl rfl rfl rfl (by rw [hg13_28]; rfl)) ?_
                    refine rg_skip 40 rfl rfl (by kernel_rfl) (by kernel_rfl) (by kernel_rfl) (want_n rfl rfl rfl rfl (by rw [hg13_28]; rfl)) ?_
                    refine rg_take 41 rfl rfl (by kernel_rfl) (by kernel_rfl) (by kernel_rfl) (want_y rfl rfl rfl rfl rfl) (fun w hok => x_pickF (tmB rfl rfl) hg13_28 ev_c) ?_
                    refine rg_take 42 rfl rfl (by kernel_rfl) (by kernel_rfl) (by kernel_rfl) (want_0) (fun w hok => x_pickF (tmB rfl rfl) rfl (tmB rfl rfl)) ?_
                    refine rg_done (oks_drop hS 0 rfl) (by kernel_rfl) ?_
                    exact then_n ⟨_, rfl, (by repeat (first | exact agree_self | exact agree_refl | refine agree_upd rfl ?_ | refine agree_mix rfl ?_)), (by first | rfl | (first | rfl | exact congrArg Value.bool hg13_28 | exact congrArg Value.bool (by simp [*]); done) | (first | rfl | exact congrArg Value.bool hg13_28 | exact congrArg Value.bool (by simp [*]); rfl) | (first | rfl | exact congrArg Value.bool hg13_28 | exact congrArg Value.bool (by simp [*]); go_num)), (hS.pick [1, 2, 7, 3, 8] rfl rfl)⟩
              · clear hS; intro g w hI
                obtain ⟨hs107, hS⟩ := hI
                refine fr_knowQ (d := 107) hs107 ?_; clear hs107
                refine then_n (hK18 _ _ ?_); clear hK18 K18
                refine cnd (tm rfl) (fun hc3 => ?_) (fun hc3 => ?_)
                · exfalso
                  exact absurd hc3 (by decide)
                try (exfalso; first | with_reducible exact absurd hc3 Bool.false_ne_true | with_reducible exact absurd hc3.symm Bool.false_ne_true | (simp only [nrm] at hc3; omega) | (simp at hc3; done))
                all_goals
                 try simp only [nrm] at hc3
                 refine wp_skip ?_
                 refine inb_n ?_
                 refine then_n (hK10 _ _ ?_); clear hK10 K10
                 refine wlit ?_
                 refine wl_v (x_move (tmI rfl rfl)) ?_
                 first
                  | refine wl_v (x_addN (tmI rfl rfl) (ev_cN 1) (fit_i64 (by omega))) ?_
                  | refine wl_v (x_addI (tmI rfl rfl) (ev_cN 1) (IntWalk.i64_in _ (by omega))) ?_
                  | refine wl_v (x_add (tmI rfl rfl) (ev_cN 1)) ?_
                 refine wl_v (x_assign (tmI rfl rfl)) ?_
                 refine wl_nil ?_
                 first
                  | exact then_n ⟨_, _, rfl, (by show _ < _; omega), (by repeat (first | exact agree_self | exact agree_refl | refine agree_upd rfl ?_ | refine agree_mix rfl ?_)), k + 1, _, _, _, _, _, _, _, rfl, (by first | rfl | go_num | exact congrArg (Value.int _) (by first | omega | (simp; done) | (simp; omega))), (hS.pick [(no_label_vr), 1, 2, 3, 4] rfl rfl), (by omega), (by first | rfl | exact hq | exact hq2), (by first | (intro i hi; exact absurd hi (Nat.not_lt_zero _)) | exact hfair2), (by omega)⟩
                  | exact then_n ⟨_, _, rfl, (by show _ < _; omega), (by repeat (first | exact agree_self | exact agree_refl | refine agree_upd rfl ?_ | refine agree_mix rfl ?_)), k + 1, _, _, _, _, _, _, _, rfl, (by first | rfl | go_num | exact congrArg (Value.int _) (by first | omega | (simp; done) | (simp; omega))), hS, (by omega), (by first | rfl | exact hq | exact hq2), (by first | (intro i hi; exact absurd hi (Nat.not_lt_zero _)) | exact hfair2), (by omega)⟩
        try (exfalso; first | with_reducible exact absurd hc1 Bool.false_ne_true | with_reducible exact absurd hc1.symm Bool.false_ne_true | (simp only [nrm] at hc1; omega) | (simp at hc1; done))
        all_goals
         try simp only [nrm] at hc1
         refine wp_exit ?_
         refine then_x ?_; clear hK8 K8
         refine then_x ?_
         refine inb_x ?_
         refine then_n (hK6 _ _ ?_); clear hK6 K6
         refine wp_seq_k ?_; intro K20 hK20
         refine wlit ?_
         refine wl_v (x_assign ev_c) ?_
         refine wl_nil ?_
         refine then_n (hK20 _ _ ?_); clear hK20 K20
         refine wp_seq_k ?_; intro K21 hK21
         refine wlit ?_
         refine wl_v (x_move (tmP rfl rfl)) ?_
         refine wl_v (x_build (bc_skip (.int .i64 0) <| bc_skip (.int .i64 0) <| bc_skip (.int .i64 0) <| bc_skip (.int .u32 0) <| bc_nil) (by kernel_rfl)) ?_
         refine wl_e rfl ?_; intro K hK
         refine ow_build hS Try.underlying36 tz_33 (bc_takeL (tmA rfl rfl) <| bc_nil) rfl rfl (by kernel_rfl) ?_
         clear hS; intro g16_2 w hg16_2 hS
         refine hK _ _ ?_; clear hK K
         refine wl_e rfl ?_; intro K hK
         refine ow_call Try.func17 rfl rfl (evs_cons (tmP rfl rfl) <| evs_cons (ev_cN 1) <| evs_cons (tmS rfl rfl) <| evs_cons (ev_cN 0) <| evs_cons (ev_cN 0) <| evs_nil) (choose_nil_c _ _ _ _ _) ?_
         rintro e w ⟨rfl, hk3⟩
         refine ⟨_, rfl, ?_⟩
         replace hS := hS.kept hk3
         clear hk3
         refine hK _ _ ?_; clear hK K
         refine wl_v (x_move (tmT rfl rfl)) ?_
         refine wl_v (x_ext (tmT rfl rfl) rfl) ?_
         refine wl_v (x_ext (tmT rfl rfl) rfl) ?_
         refine wl_e rfl ?_; intro K hK
         refine ow_alloc hS tz_33 rfl ?_
         clear hS; intro g16_7 w hg16_7 hS
         refine hK _ _ ?_; clear hK K
         refine wl_e rfl ?_; intro K hK
         refine ow_storeA hS 0 rfl ts_33 (tmP rfl rfl) (tmA rfl rfl) rfl rfl rfl ?_
         clear hS; intro w hS
         try replace hS := St.nm (M' := [.blk _ _ [_, _, _, _], _, .vw _ _, .row _ _ _ _ _, .blk _ _ [_, _], .blk _ _ [_, _], .vw _ _]) hS rfl
         refine hK _ _ ?_; clear hK K
         refine wl_v (x_assign (tmB rfl rfl)) ?_
         refine wl_nil ?_
         refine then_n (hK21 _ _ ?_); clear hK21 K21
         refine wp_seq_k ?_; intro K22 hK22
         refine wlit ?_
         refine wl_v (x_move (tmB rfl rfl)) ?_
         refine wl_v (x_not (tmB rfl rfl)) ?_
         refine wl_v (x_move (tmB rfl rfl)) ?_
         refine gs_wl (tm (t := 117) rfl) (fun hg17_2 => ?_) (fun hg17_2 => ?_)
         · have hg17_2' := hg17_2; (try simp only [nrm] at hg17_2'); try (exfalso; first | with_reducible exact absurd hg17_2 Bool.false_ne_true | with_reducible exact absurd hg17_2.symm Bool.false_ne_true | omega | (simp at hg17_2; done))
           all_goals
            refine wl_g (want_y rfl rfl rfl rfl (by rw [hg17_2]; rfl)) ?_; intro K hK
            refine ow_call Try.func13 rfl rfl (evs_nil) (law21_awake_c _) ?_
            rintro e w ⟨rfl, hk1⟩
            refine ⟨_, rfl, ?_⟩
            replace hS := hS.kept hk1
            clear hk1
            refine hK _ _ ?_; clear hK K
            refine wl_v (x_pickT (tmB rfl rfl) hg17_2 (tmB rfl rfl)) ?_
            refine wl_v (x_assign (tmB rfl rfl)) ?_
            refine wl_nil ?_
            refine then_n (hK22 _ _ ?_); clear hK22 K22
            refine wp_ret ?_
            refine ret1 rfl (.tmp rfl (show _ = Value.bool _ from rfl)) ?_
            exact ⟨rfl, hS.kp.below⟩
         have hg17_2' := hg17_2; (try simp only [nrm] at hg17_2'); try (exfalso; first | with_reducible exact absurd hg17_2 Bool.false_ne_true | with_reducible exact absurd hg17_2.symm Bool.false_ne_true | omega | (simp at hg17_2; done))
         all_goals
          refine wl_s rfl (want_n rfl rfl rfl rfl (by rw [hg17_2]; rfl)) ?_
          refine wl_v (x_pickF (tmB rfl rfl) hg17_2 ev_c) ?_
          refine wl_v (x_assign (tmB rfl rfl)) ?_
          refine wl_nil ?_
          refine then_n (hK22 _ _ ?_); clear hK22 K22
          refine wp_ret ?_
          refine ret1 rfl (.tmp rfl (show _ = Value.bool _ from rfl)) ?_
          exact ⟨rfl, hS.kp.below⟩
     have hg6_4' := hg6_4; (try simp only [nrm] at hg6_4'); try (exfalso; first | with_reducible exact absurd hg6_4 Bool.false_ne_true | with_reducible exact absurd hg6_4.symm Bool.false_ne_true | omega | (simp at hg6_4; done))
     all_goals
      refine wl_s rfl (want_n rfl rfl rfl rfl (by rw [hg6_4]; rfl)) ?_
      refine wl_s rfl (want_n rfl rfl rfl rfl (by rw [hg6_4]; rfl)) ?_
      refine wl_v (x_pickF (tmB rfl rfl) hg6_4 ev_c) ?_
      refine wl_nil ?_
      refine then_n (hK9 _ _ ?_); clear hK9 K9
      refine cnd_f (tmB rfl rfl) rfl ?_
      refine wp_exit ?_
      refine then_x ?_; clear hK8 K8
      refine then_x ?_
      refine inb_x ?_
      refine then_n (hK6 _ _ ?_); clear hK6 K6
      refine wp_seq_k ?_; intro K23 hK23
      refine wlit ?_
      refine wl_v (x_assign ev_c) ?_
      refine wl_nil ?_
      refine then_n (hK23 _ _ ?_); clear hK23 K23
      refine wp_seq_k ?_; intro K24 hK24
      refine wlit ?_
      refine wl_v (x_move (tmP rfl rfl)) ?_
      refine wl_v (x_build (bc_skip (.int .i64 0) <| bc_skip (.int .i64 0) <| bc_skip (.int .i64 0) <| bc_skip (.int .u32 0) <| bc_nil) (by kernel_rfl)) ?_
      refine wl_e rfl ?_; intro K hK
      refine ow_build hS Try.underlying36 tz_33 (bc_takeL (tmA rfl rfl) <| bc_nil) rfl rfl (by kernel_rfl) ?_
      clear hS; intro g16_2 w hg16_2 hS
      refine hK _ _ ?_; clear hK K
      refine wl_e rfl ?_; intro K hK
      refine ow_call Try.func17 rfl rfl (evs_cons (tmP rfl rfl) <| evs_cons (ev_cN 1) <| evs_cons (tmS rfl rfl) <| evs_cons (ev_cN 0) <| evs_cons (ev_cN 0) <| evs_nil) (choose_nil_c _ _ _ _ _) ?_
      rintro e w ⟨rfl, hk3⟩
      refine ⟨_, rfl, ?_⟩
      replace hS := hS.kept hk3
      clear hk3
      refine hK _ _ ?_; clear hK K
      refine wl_v (x_move (tmT rfl rfl)) ?_
      refine wl_v (x_ext (tmT rfl rfl) rfl) ?_
      refine wl_v (x_ext (tmT rfl rfl) rfl) ?_
      refine wl_e rfl ?_; intro K hK
      refine ow_alloc hS tz_33 rfl ?_
      clear hS; intro g16_7 w hg16_7 hS
      refine hK _ _ ?_; clear hK K
      refine wl_e rfl ?_; intro K hK
      refine ow_storeA hS 0 rfl ts_33 (tmP rfl rfl) (tmA rfl rfl) rfl rfl rfl ?_
      clear hS; intro w hS
      try replace hS := St.nm (M' := [.blk _ _ [_, _, _, _], _, .vw _ _, .row _ _ _ _ _, .blk _ _ [_, _], .blk _ _ [_, _], .vw _ _]) hS rfl
      refine hK _ _ ?_; clear hK K
      refine wl_v (x_assign (tmB rfl rfl)) ?_
      refine wl_nil ?_
      refine then_n (hK24 _ _ ?_); clear hK24 K24
      refine wp_seq_k ?_; intro K25 hK25
      refine wlit ?_
      refine wl_v (x_move (tmB rfl rfl)) ?_
      refine wl_v (x_not (tmB rfl rfl)) ?_
      refine wl_v (x_move (tmB rfl rfl)) ?_
      refine gs_wl (tm (t := 117) rfl) (fun hg17_2 => ?_) (fun hg17_2 => ?_)
      · have hg17_2' := hg17_2; (try simp only [nrm] at hg17_2'); try (exfalso; first | with_reducible exact absurd hg17_2 Bool.false_ne_true | with_reducible exact absurd hg17_2.symm Bool.false_ne_true | omega | (simp at hg17_2; done))
        all_goals
         refine wl_g (want_y rfl rfl rfl rfl (by rw [hg17_2]; rfl)) ?_; intro K hK
         refine ow_call Try.func13 rfl rfl (evs_nil) (law21_awake_c _) ?_
         rintro e w ⟨rfl, hk1⟩
         refine ⟨_, rfl, ?_⟩
         replace hS := hS.kept hk1
         clear hk1
         refine hK _ _ ?_; clear hK K
         refine wl_v (x_pickT (tmB rfl rfl) hg17_2 (tmB rfl rfl)) ?_
         refine wl_v (x_assign (tmB rfl rfl)) ?_
         refine wl_nil ?_
         refine then_n (hK25 _ _ ?_); clear hK25 K25
         refine wp_ret ?_
         refine ret1 rfl (.tmp rfl (show _ = Value.bool _ from rfl)) ?_
         exact ⟨rfl, hS.kp.below⟩
      have hg17_2' := hg17_2; (try simp only [nrm] at hg17_2'); try (exfalso; first | with_reducible exact absurd hg17_2 Bool.false_ne_true | with_reducible exact absurd hg17_2.symm Bool.false_ne_true | omega | (simp at hg17_2; done))
      all_goals
       refine wl_s rfl (want_n rfl rfl rfl rfl (by rw [hg17_2]; rfl)) ?_
       refine wl_v (x_pickF (tmB rfl rfl) hg17_2 ev_c) ?_
       refine wl_v (x_assign (tmB rfl rfl)) ?_
       refine wl_nil ?_
       refine then_n (hK25 _ _ ?_); clear hK25 K25
       refine wp_ret ?_
       refine ret1 rfl (.tmp rfl (show _ = Value.bool _ from rfl)) ?_
       exact ⟨rfl, hS.kp.below⟩
set_option maxRecDepth 100000 in
theorem walk {H : Type} {enc : TypeId × Value → H} {r : Reach} {b0 : Nat} {d : DataW H} {ps : List MemPlace} (v : Value) (w0 : World)
    (hval : Value.okWide Try.prog w0 r b0 53 v) (hd : DataW.Trod enc Try.prog w0 0 (fun _ => true) true 53 v d ps) (hlt : ∀ x ∈ ps, x.block < w0.heap.size) :
    Calls Try.prog 5 #[v] w0 fun e w' => e = .returned (.bool true) ∧ Below w0.heap.size w0 w' := by
  obtain ⟨s, rfl, hnc, hcm, hv, hall⟩ := arg_sl (V := GAct.V) (ok := fun r => r.ok w0) Try.underlying53 4 (by kernel_rfl) (by omega) GAct.open_t hval hd hlt
  have hmx : maxLen = 9223372036854775807 := by simp [maxLen]
  rw [hmx] at hcm
  exact walk_all s.a s.c s.l.length s.l w0 hv hall rfl (Nat.le_trans hnc hcm)
end PolicyChooses
end Go.Proofs.Yteocdobepgbnkaa
