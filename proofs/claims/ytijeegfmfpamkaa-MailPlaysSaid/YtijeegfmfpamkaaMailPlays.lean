
/- Proved: MailPlays returns true for every input, and changes no memory that was there. Conditions: none. -/
import Derived.Test.YtijeegfmfpamkaaMailE
import Derived.Test.YtijeegfmfpamkaaArgs
namespace Go.Proofs.Ytijeegfmfpamkaa
open Go.ChangeShapes Go.WideShapes Go.ChangeAt Go.RowKit
structure GMAct where
  kind : Int
  x : GLt
  i : Int
def GMAct.V (s : GMAct) : List Value := [.int .i64 s.kind, .int .i64 s.x.node, .bool s.x.back, .slice s.x.b.a s.x.b.l.length s.x.b.c, .int .i64 s.i]
theorem GMAct.len (s : GMAct) : s.V.length = 5 := rfl
def GMAct.ok (w : World) (s : GMAct) : Prop := (-9223372036854775808 ≤ s.kind ∧ s.kind ≤ 9223372036854775807) ∧ s.x.ok w ∧ (-9223372036854775808 ≤ s.i ∧ s.i ≤ 9223372036854775807)
instance : Inhabited GMAct := ⟨⟨0, default, 0⟩⟩
set_option maxRecDepth 100000 in
theorem GMAct.open_t {H : Type} {enc : TypeId × Value → H} {w : World} {fuel : Nat} {cs : List Value} {x : DataW H × List MemPlace} (hf : DataW.trod enc Try.prog w 0 (fun _ => true) true fuel 42 cs = some x) (hlt : ∀ p ∈ x.2, p.block < w.heap.size) : ∃ s : GMAct, cs = s.V ∧ s.ok w := by
  have hC : Try.prog.cellsOf 42 = 5 := by kernel_rfl
  have hl := (DataW.trod_struct Try.underlying42 hf).choose_spec.choose_spec.2.2.1
  rw [hC] at hl
  obtain ⟨y0, k0, t0, b0⟩ := field_t Try.underlying42 hf hlt 0 _ rfl
  have hC0 : Try.prog.cellsOf 3 = 1 := by kernel_rfl
  obtain ⟨s0, e0, o0⟩ := t_i64 Try.underlying3 t0 b0
  have d0 := split_drop cs 0 1 (hC0 ▸ e0)
  obtain ⟨y1, k1, t1, b1⟩ := field_t Try.underlying42 hf hlt 1 _ rfl
  have hC1 : Try.prog.cellsOf 28 = 3 := by kernel_rfl
  obtain ⟨s1, e1, o1⟩ := GLt.open_t t1 b1
  have d1 := split_drop cs 1 3 (hC1 ▸ e1)
  obtain ⟨y2, k2, t2, b2⟩ := field_t Try.underlying42 hf hlt 2 _ rfl
  have hC2 : Try.prog.cellsOf 3 = 1 := by kernel_rfl
  obtain ⟨s2, e2, o2⟩ := t_i64 Try.underlying3 t2 b2
  have d2 := split_drop cs 4 1 (hC2 ▸ e2)
  refine ⟨⟨s0, s1, s2⟩, ?_, ⟨o0, o1, o2⟩⟩
  have dn : cs.drop 5 = [] := List.drop_eq_nil_of_le (by omega)
  rw [← List.drop_zero (l := cs)]
  refine d0.trans ?_
  rw [show cs.drop (0 + 1) = _ from d1]
  rw [show cs.drop (1 + 3) = _ from d2]
  rw [show cs.drop (4 + 1) = [] from dn]
  rfl
set_option maxRecDepth 100000 in
theorem GMAct.open_a {H : Type} {enc : TypeId × Value → H} {w : World} {r : Reach} {b0 : Nat} {v : Value} {d : DataW H} {ps : List MemPlace} (hval : Value.okWide Try.prog w r b0 42 v) (hd : DataW.Trod enc Try.prog w 0 (fun _ => true) true 42 v d ps) (hlt : ∀ p ∈ ps, p.block < w.heap.size) : ∃ s : GMAct, v = .agg s.V.toArray ∧ s.ok w := by
  obtain ⟨cs, rfl, _⟩ := okWide_struct Try.underlying42 hval
  obtain ⟨fuel, hf⟩ := hd
  obtain ⟨s, e, h⟩ := GMAct.open_t hf hlt
  exact ⟨s, by rw [← e]; simp [Value.cells], h⟩
namespace MailPlays
theorem view_on {w0 w : World} {A : Option Addr} {xs : List Value} (h : View w0 w0.heap.size A xs) (hk : Kp [] w0 w) : View w w.heap.size A xs := (h.below hk.below).more hk.size
set_option maxRecDepth 100000 in
set_option maxHeartbeats 8000000 in
theorem walk_all (A0 : Option Addr) (c0 n0 : Nat) (rs : List GMAct) (most : Int) (w0 : World) (hv0 : View w0 w0.heap.size A0 (flat GMAct.V rs)) (hrs : ∀ p ∈ rs, p.ok w0) (hl0 : rs.length = n0) (hn0 : n0 ≤ 9223372036854775807) :
    Calls Try.prog 4 #[.int .i64 most, .slice A0 n0 c0] w0 fun e w' => e = .returned (.bool true) ∧ Below w0.heap.size w0 w' := by
  have hS := (St.sv w0).vcons rfl hv0
  have hfl0 := flat_length (enc := GMAct.V) (l := rs) GMAct.len
  refine ent (n := 226) Try.func4 rfl rfl ?_
  refine wp_seq_k ?_; intro K1 hK1
  refine wlit ?_
  refine wl_v (x_assign ev_c) ?_
  refine wl_nil ?_
  refine then_n (hK1 _ _ ?_); clear hK1 K1
  refine wp_seq_k ?_; intro K2 hK2
  refine wp_seq_k ?_; intro K3 hK3
  refine wlit ?_
  refine wl_e rfl ?_; intro K hK
  refine ow_call Try.func5 rfl rfl (evs_nil) (law34_awake_c _) ?_
  rintro e w ⟨rfl, hk1⟩
  refine ⟨_, rfl, ?_⟩
  replace hS := hS.kept hk1
  clear hk1
  refine hK _ _ ?_; clear hK K
  refine wl_v (x_not (tmB rfl rfl)) ?_
  refine wl_nil ?_
  refine then_n (hK3 _ _ ?_); clear hK3 K3
  refine cnd (tm rfl) (fun hc0 => ?_) (fun hc0 => ?_)
  · exfalso
    exact absurd hc0 (by decide)
  try (exfalso; first | with_reducible exact absurd hc0 Bool.false_ne_true | with_reducible exact absurd hc0.symm Bool.false_ne_true | (simp only [nrm] at hc0; omega) | (simp at hc0; done))
  all_goals
   try simp only [nrm] at hc0
   refine wp_skip ?_
   refine then_n (hK2 _ _ ?_); clear hK2 K2
   refine wp_seq_k ?_; intro K4 hK4
   refine wlit ?_
   refine wl_v (x_move (tmI rfl rfl)) ?_
   refine wl_e rfl ?_; intro K hK
   refine ow_call Try.func6 rfl rfl (evs_cons (tmI rfl rfl) <| evs_nil) (mnew_c most _) ?_
   rintro e w ⟨gm, rfl, hn, hk⟩
   refine ⟨_, rfl, ?_⟩
   replace hS := hS.add hk hn -- +gm
   clear hn hk
   refine hK _ _ ?_; clear hK K
   refine wl_v (x_move (tmI rfl rfl)) ?_
   first
    | refine wl_v (x_max (tmI rfl rfl) (ev_cN 0)) ?_
    | refine wl_v (x_maxI (tmI rfl rfl) (ev_cN 0)) ?_
   refine wl_v (x_build (bc_take (tmI rfl rfl) <| bc_skip (.slice none 0 0) <| bc_skip (.int .i64 0) <| bc_nil) (by kernel_rfl)) ?_
   refine wl_e rfl ?_; intro K hK
   refine ow_alloc hS tz_40 rfl ?_
   clear hS; intro g3_5 w hg3_5 hS
   refine hK _ _ ?_; clear hK K
   refine wl_v (x_assign (tmP rfl rfl)) ?_
   refine wl_e rfl ?_; intro K hK
   refine ow_storeA hS 0 rfl ts_40 (tmP rfl rfl) (tmA rfl rfl) rfl rfl rfl ?_
   clear hS; intro w hS
   try replace hS := St.nm (M' := [.blk _ _ [_, _, _], _, .vw _ _]) hS rfl
   refine hK _ _ ?_; clear hK K
   refine wl_nil ?_
   refine then_n (hK4 _ _ ?_); clear hK4 K4
   refine wp_seq_k ?_; intro K5 hK5
   refine wp_seq_k ?_; intro K6 hK6
   refine wlit ?_
   refine wl_v (x_assign (ev_cN 0)) ?_
   refine wl_nil ?_
   refine then_n (hK6 _ _ ?_); clear hK6 K6
   refine wp_block ?_
   have hS := ((hS.nilrow 28 3).nilrow 31 3).pick [0, 3, 2, 1, 4] rfl rfl
   refine lp [4, 7, 8, 9, 10, 11, 12, 13, 14, 28, 29, 30, 31, 32, 33, 34, 35, 36, 37, 38, 39, 40, 41, 42, 43, 44, 45, 46, 47, 48, 49, 50, 51, 52, 53, 54, 55, 56, 57, 58, 59, 60, 61, 62, 63, 64, 65, 66, 67, 68, 69, 70, 71, 72, 73, 74, 75, 76, 77, 78, 79, 80, 81, 82, 83, 84, 85, 86, 87, 88, 89, 90, 91, 92, 93, 94, 95, 96, 97, 98, 99, 100, 101, 102, 103, 104, 105, 106, 107, 108, 109, 110, 111, 112, 113, 114, 115, 116, 117, 118, 119, 120, 121, 122, 123, 124, 125, 126, 127, 128, 129, 130, 131, 132, 133, 134, 135, 136, 137, 138, 139, 140, 141, 142, 143, 144, 145, 146, 147, 148, 149, 150, 151, 152, 153, 154, 155, 156, 157, 158, 159, 160, 161, 162] (fun mz g w => ∃ (k : Nat), ∃ (Ka : Option Addr), ∃ (q ck : Nat), ∃ (ls : List GLt), ∃ (lost : Nat), ∃ (R : Option Addr), ∃ (m cr : Nat), ∃ (rl : List GLt), mz = n0 - k ∧ g 7 = .int .i64 (k : Int) ∧ St [] w0 [.row (.slice Ka q ck) 31 3 q (flat GLt.V ls), .blk gm 52 [.slice Ka q ck, .int .i64 (max most 0), .int .i64 ((lost : Nat) : Int)], .blk g3_5 40 [.int .i64 (max most 0), .slice R m cr, .int .i64 ((lost : Nat) : Int)], .row (.slice R m cr) 28 3 m (flat GLt.V rl), .vw A0 (flat GMAct.V rs)] w ∧ (k ≤ n0) ∧ (k ≤ 60) ∧ (ls.length = q) ∧ (rl.length = m) ∧ (m ≤ cr) ∧ (ls.map strip = rl.map strip) ∧ (lost + m ≤ k) ∧ (∀ r ∈ rl, okB w0 r.b ∧ r.b.l.length ≤ 200) ∧ (Aws w (blks [.row (.slice Ka q ck) 31 3 q (flat GLt.V ls), .blk gm 52 [.slice Ka q ck, .int .i64 (max most 0), .int .i64 ((lost : Nat) : Int)], .blk g3_5 40 [.int .i64 (max most 0), .slice R m cr, .int .i64 ((lost : Nat) : Int)], .row (.slice R m cr) 28 3 m (flat GLt.V rl)]) ls)) ?_ ?_
   · exact ⟨_, 0, none, 0, 0, [], 0, none, 0, 0, [], rfl, (by first | rfl | go_num | exact congrArg (Value.int _) (by first | omega | (simp; done) | (simp; omega))), hS, (by omega), (by omega), (by first | rfl | exact hq2), (by first | rfl | exact hm2), (by first | omega | exact hcr2), (by first | rfl | exact hls2), (by first | omega | exact hb2), (by first | exact (fun r hr => absurd hr (List.not_mem_nil)) | exact hro2), (by first | exact Aws.nil | exact haw2.step (hS.pick [(no_label_row), 1, 0, (no_label_rowr)] rfl rfl) rfl)⟩
   · clear hS; intro mz g w hI
     obtain ⟨k, Ka, q, ck, ls, lost, R, m, cr, rl, rfl, hs7, hS, hk, hk60, hq, hm, hcr, hls, hb, hro, haw⟩ := hI
     refine fr_know (d := 7) hs7 ?_; clear hs7
     refine wp_seq_k ?_; intro K7 hK7
     refine wp_seq_k ?_; intro K8 hK8
     refine wlit ?_
     refine wl_v (x_move (tmI rfl rfl)) ?_
     refine wl_v (x_move (tmS rfl rfl)) ?_
     refine wl_v (x_len Try.underlying38 (tmS rfl rfl)) ?_
     refine wl_v (x_lss (tmI rfl rfl) (tmI rfl rfl)) ?_
     refine wl_v (x_move (tmB rfl rfl)) ?_
     refine gs_wl (tm (t := 32) rfl) (fun hg5_4 => ?_) (fun hg5_4 => ?_)
     · have hg5_4' := hg5_4; (try simp only [nrm] at hg5_4'); try (exfalso; first | with_reducible exact absurd hg5_4 Bool.false_ne_true | with_reducible exact absurd hg5_4.symm Bool.false_ne_true | omega | (simp at hg5_4; done))
       all_goals
        refine wl_gv (want_y rfl rfl rfl rfl (by rw [hg5_4]; rfl)) (x_move (tmI rfl rfl)) ?_
        refine wl_gv (want_y rfl rfl rfl rfl (by rw [hg5_4]; rfl)) (x_lss (tmI rfl rfl) (ev_cN 60)) ?_
        refine wl_v (x_pickT (tmB rfl rfl) hg5_4 (tmB rfl rfl)) ?_
        refine wl_nil ?_
        refine then_n (hK8 _ _ ?_); clear hK8 K8
        refine cnd (tm rfl) (fun hc1 => ?_) (fun hc1 => ?_)
        · try (exfalso; first | with_reducible exact absurd hc1 Bool.false_ne_true | with_reducible exact absurd hc1.symm Bool.false_ne_true | (simp only [nrm] at hc1; omega) | (simp at hc1; done))
          all_goals
           try simp only [nrm] at hc1
           have hkn : k < n0 := by omega
           have hkc : k < rs.length := by omega
           have hsm : rs.getD k default ∈ rs := by
             rw [List.getD_eq_getElem?_getD, List.getElem?_eq_getElem (by omega)]
             exact List.getElem_mem _
           obtain ⟨-, ⟨-, -, hok⟩, -⟩ := hrs _ hsm
           have hvi := hok.2.2.2
           obtain ⟨b0, o0, rfl⟩ := view_some hv0 (by rw [hfl0]; omega)
           have hsll : ls.length = rl.length := by simpa using congrArg List.length hls
           obtain rfl : q = m := by omega
           have hSa := hS.argv hvi
           replace hS := hSa.enter [1, 2, 3, 4] [0, 5] rfl rfl
           try replace hS := St.nm (M' := [.row _ _ _ _ _, _, .blk _ _ [_, _, _], .row _ _ _ _ _, .vw _ _, .vw _ _]) hS rfl
           refine wp_skip ?_
           refine then_n (hK7 _ _ ?_); clear hK7 K7
           refine wp_seq_k ?_; intro K9 hK9
           refine wp_block ?_
           refine wp_seq_k ?_; intro K10 hK10
           refine wlit ?_
           refine wl_v (x_move (tmS rfl rfl)) ?_
           refine wl_v (x_move (tmI rfl rfl)) ?_
           refine wl_v (x_ixs Try.underlying38 ts_42 (tmS rfl rfl) (tmI rfl rfl) (by omega)) ?_
           first
            | refine wl_v (x_loadA (cs := [_, _, _, _, _]) Try.underlying42 rfl ts_42 (tmP rfl rfl) (rangeB hS.ok 1 rfl rfl)) ?_
            | refine wl_v (x_loadA Try.underlying42 rfl (by exact ts_42) (tmP rfl rfl) (rangeRs hS.ok 0 rfl (fun _ => rfl) (by omega))) ?_
            | refine wl_v (x_loadA Try.underlying42 rfl (by exact ts_42) (tmP rfl rfl) (rangeRs hS.ok 3 rfl (fun _ => rfl) (by omega))) ?_
            | refine wl_v (x_loadA Try.underlying42 rfl (by exact ts_42) (tmP rfl rfl) (rangeVs hS.ok 4 rfl (fun _ => rfl) (by omega))) ?_
            | refine wl_v (x_loadA Try.underlying42 rfl (by exact ts_42) (tmP rfl rfl) (rangeVs hS.ok 5 rfl (fun _ => rfl) (by omega))) ?_
           refine wl_e rfl ?_; intro K hK
           refine ow_alloc hS tz_42 rfl ?_
           clear hS; intro g7_4 w hg7_4 hS
           refine hK _ _ ?_; clear hK K
           refine wl_e rfl ?_; intro K hK
           refine ow_storeA hS 0 rfl ts_42 (tmP rfl rfl) (tmA rfl rfl) rfl rfl rfl ?_
           clear hS; intro w hS
           try replace hS := St.nm (M' := [.blk _ _ [_, _, _, _, _], .row _ _ _ _ _, _, .blk _ _ [_, _, _], .row _ _ _ _ _, .vw _ _, .vw _ _]) hS rfl
           refine hK _ _ ?_; clear hK K
           refine wl_nil ?_
           refine then_n (hK10 _ _ ?_); clear hK10 K10
           refine wp_seq_k ?_; intro K11 hK11
           refine wp_seq_k ?_; intro K12 hK12
           refine wlit ?_
           refine wl_v (x_fa 1 Try.underlying42 rfl rfl ts_28 (tmP rfl rfl)) ?_
           refine wl_v (x_fa 2 Try.underlying28 rfl rfl ts_26 (tmP rfl rfl)) ?_
           first
            | refine wl_v (x_load Try.underlying26 rfl (tmP rfl rfl) (cellB hS.ok 0 rfl rfl)) ?_
            | refine wl_v (x_load Try.underlying26 rfl (tmP rfl rfl) (cellB hS.ok 0 rfl (getm (by omega)))) ?_
           refine wl_v (x_len Try.underlying26 (tmS rfl rfl)) ?_
           refine wl_v (x_gtr (tmI rfl rfl) (ev_cN 200)) ?_
           refine wl_nil ?_
           refine then_n (hK12 _ _ ?_); clear hK12 K12
           refine cnd (tm rfl) (fun hc2 => ?_) (fun hc2 => ?_)
           · try (exfalso; first | with_reducible exact absurd hc2 Bool.false_ne_true | with_reducible exact absurd hc2.symm Bool.false_ne_true | (simp only [nrm] at hc2; omega) | (simp at hc2; done))
             all_goals
              try simp only [nrm] at hc2
              refine wp_seq_k ?_; intro K13 hK13
              refine wlit ?_
              refine wl_e rfl ?_; intro K hK
              refine ow_call Try.func5 rfl rfl (evs_nil) (law34_awake_c _) ?_
              rintro e w ⟨rfl, hk1⟩
              refine ⟨_, rfl, ?_⟩
              replace hS := hS.kept hk1
              clear hk1
              refine hK _ _ ?_; clear hK K
              refine wl_v (x_assign (tmB rfl rfl)) ?_
              refine wl_nil ?_
              refine then_n (hK13 _ _ ?_); clear hK13 K13
              refine wp_ret ?_
              refine then_r ?_
              refine inb_r ?_
              refine then_r ?_
              refine then_r ?_
              refine inb_r ?_
              refine then_r ?_
              refine ret1 rfl (.tmp rfl (show _ = Value.bool _ from rfl)) ?_
              first
                | exact ⟨rfl, hS.kp.below⟩
                | exact ⟨rfl, (hSa.kpc (is := [1, 2, 3, 4]) rfl rfl hS).below⟩
           try (exfalso; first | with_reducible exact absurd hc2 Bool.false_ne_true | with_reducible exact absurd hc2.symm Bool.false_ne_true | (simp only [nrm] at hc2; omega) | (simp at hc2; done))
           all_goals
            try simp only [nrm] at hc2
            refine wp_skip ?_
            refine then_n (hK11 _ _ ?_); clear hK11 K11
            refine wp_seq_k ?_; intro K14 hK14
            refine wlit ?_
            refine wl_v (x_loadA (cs := [_, _, _]) Try.underlying40 rfl ts_40 (tmP rfl rfl) (rangeB hS.ok 3 rfl rfl)) ?_
            refine wl_v (x_fa 4 Try.underlying42 rfl rfl ts_3 (tmP rfl rfl)) ?_
            first
             | refine wl_v (x_load Try.underlying3 rfl (tmP rfl rfl) (cellB hS.ok 0 rfl rfl)) ?_
             | refine wl_v (x_load Try.underlying3 rfl (tmP rfl rfl) (cellB hS.ok 0 rfl (getm (by omega)))) ?_
            refine wl_e rfl ?_; intro K hK
            refine ow_call Try.func12 rfl rfl (evs_cons (tmA rfl rfl) <| evs_cons (tmI rfl rfl) <| evs_nil) (rhas_c (max most 0) lost R q cr (rs.getD k default).i _) ?_
            rintro e w ⟨rfl, hk1⟩
            refine ⟨_, rfl, ?_⟩
            replace hS := hS.kept hk1
            clear hk1
            refine hK _ _ ?_; clear hK K
            refine wl_v (x_assign (tmB rfl rfl)) ?_
            refine wl_nil ?_
            refine then_n (hK14 _ _ ?_); clear hK14 K14
            refine wp_seq_k ?_; intro K15 hK15
            refine wlit ?_
            refine wl_v (x_assign (ev_cN 0)) ?_
            refine wl_v (x_assign (ev_cN 6)) ?_
            refine wl_nil ?_
            refine then_n (hK15 _ _ ?_); clear hK15 K15
            refine wp_seq_k ?_; intro K16 hK16
            refine wp_seq_k ?_; intro K17 hK17
            refine wlit ?_
            refine wl_v (x_fa 0 Try.underlying42 rfl rfl ts_3 (tmP rfl rfl)) ?_
            first
             | refine wl_v (x_load Try.underlying3 rfl (tmP rfl rfl) (cellB hS.ok 0 rfl rfl)) ?_
             | refine wl_v (x_load Try.underlying3 rfl (tmP rfl rfl) (cellB hS.ok 0 rfl (getm (by omega)))) ?_
            refine wl_nil ?_
            refine then_n (hK17 _ _ ?_); clear hK17 K17
            refine wp_block ?_
            refine wp_seq_k ?_; intro K18 hK18
            refine wlit ?_
            refine wl_v (x_eql (tmI rfl rfl) (ev_cN 1)) ?_
            refine wl_v (x_assign (tmB rfl rfl)) ?_
            refine wl_nil ?_
            refine then_n (hK18 _ _ ?_); clear hK18 K18
            refine cutc [4, 10, 11, 12, 13, 14, 54, 55, 56, 57, 58, 59, 60, 61, 62, 63, 64, 65, 66, 67, 68, 69, 70, 71, 72, 75, 76, 77, 78, 79, 80, 81, 82, 83, 84, 85, 86, 87, 88, 89, 90, 91, 92, 93, 94, 95, 96, 97, 98, 99, 100, 101, 102, 103, 104, 105, 106, 107, 108, 109, 110, 111, 112, 113, 114, 115, 116, 117, 118, 119, 120, 121, 122, 123, 124, 125, 126, 127, 128, 129, 130, 131, 132, 133, 134, 135, 136, 137, 138, 139, 140, 141, 142, 143, 144] (fun g w => ∃ (K2 : Option Addr), ∃ (q2 k2 : Nat), ∃ (ls2 : List GLt), ∃ (lost2 : Nat), ∃ (R2 : Option Addr), ∃ (m2 cr2 : Nat), ∃ (rl2 : List GLt), ∃ (z : Int), g 10 = .int .i64 z ∧ g 11 = .int .i64 z ∧ St [] w0 [.row (.slice K2 q2 k2) 31 3 q2 (flat GLt.V ls2), .blk gm 52 [.slice K2 q2 k2, .int .i64 (max most 0), .int .i64 ((lost2 : Nat) : Int)], .blk g3_5 40 [.int .i64 (max most 0), .slice R2 m2 cr2, .int .i64 ((lost2 : Nat) : Int)], .row (.slice R2 m2 cr2) 28 3 m2 (flat GLt.V rl2), .vw (some ⟨b0, o0, none⟩) (flat GMAct.V rs)] w ∧ (ls2.length = q2) ∧ (rl2.length = m2) ∧ (m2 ≤ cr2) ∧ (ls2.map strip = rl2.map strip) ∧ (lost2 + m2 ≤ k + 1) ∧ (∀ r ∈ rl2, okB w0 r.b ∧ r.b.l.length ≤ 200) ∧ (Aws w (blks [.row (.slice K2 q2 k2) 31 3 q2 (flat GLt.V ls2), .blk gm 52 [.slice K2 q2 k2, .int .i64 (max most 0), .int .i64 ((lost2 : Nat) : Int)], .blk g3_5 40 [.int .i64 (max most 0), .slice R2 m2 cr2, .int .i64 ((lost2 : Nat) : Int)], .row (.slice R2 m2 cr2) 28 3 m2 (flat GLt.V rl2)]) ls2)) ?_ ?_
            · skip
              refine cnd (tm rfl) (fun hc3 => ?_) (fun hc3 => ?_)
              · try (exfalso; first | with_reducible exact absurd hc3 Bool.false_ne_true | with_reducible exact absurd hc3.symm Bool.false_ne_true | (simp only [nrm] at hc3; omega) | (simp at hc3; done))
                all_goals
                 try simp only [nrm] at hc3
                 refine wp_seq_k ?_; intro K20 hK20
                 refine wlit ?_
                 refine wl_v (x_move (tmP rfl rfl)) ?_
                 refine wl_v (x_fa 4 Try.underlying42 rfl rfl ts_3 (tmP rfl rfl)) ?_
                 first
                  | refine wl_v (x_load Try.underlying3 rfl (tmP rfl rfl) (cellB hS.ok 0 rfl rfl)) ?_
                  | refine wl_v (x_load Try.underlying3 rfl (tmP rfl rfl) (cellB hS.ok 0 rfl (getm (by omega)))) ?_
                 refine wl_e rfl ?_; intro K hK
                 refine ow_call Try.func10 rfl rfl (evs_cons (tmP rfl rfl) <| evs_cons (tmI rfl rfl) <| evs_nil) (mtake_c gm Ka q ck ls (max most 0) lost (rs.getD k default).i _ _ (hS.enter [1, 2] [] rfl rfl) hq (by omega)) ?_
                 rintro e w ⟨K2, q2, k2, ls2, x, z, rfl, hS2, hqN, hT, -⟩
                 refine ⟨_, rfl, ?_⟩
                 replace hS := hS.leave [1, 2] [0, 3, 4, 5, 6] rfl rfl rfl hS2 rfl -- --lead row,gm
                 clear hS2
                 try replace hS := St.nm (M' := [.row _ _ _ _ _, _, .blk _ _ [_, _, _, _, _], .blk _ _ [_, _, _], .row _ _ _ _ _, .vw _ _, .vw _ _]) hS rfl
                 refine hK _ _ ?_; clear hK K
                 refine wl_v (x_move (tmT rfl rfl)) ?_
                 refine wl_v (x_ext (tmT rfl rfl) rfl) ?_
                 refine wl_v (x_ext (tmT rfl rfl) rfl) ?_
                 refine wl_e rfl ?_; intro K hK
                 refine ow_alloc hS tz_31 rfl ?_
                 clear hS; intro g16_7 w hg16_7 hS
                 refine hK _ _ ?_; clear hK K
                 refine wl_e rfl ?_; intro K hK
                 refine ow_storeA hS 0 rfl ts_31 (tmP rfl rfl) (tmA rfl rfl) rfl rfl rfl ?_
                 clear hS; intro w hS
                 try replace hS := St.nm (M' := [.blk _ _ [_, _, _], .row _ _ _ _ _, _, .blk _ _ [_, _, _, _, _], .blk _ _ [_, _, _], .row _ _ _ _ _, .vw _ _, .vw _ _]) hS rfl
                 refine hK _ _ ?_; clear hK K
                 refine wl_v (x_assign (tmI rfl rfl)) ?_
                 refine wl_nil ?_
                 refine then_n (hK20 _ _ ?_); clear hK20 K20
                 refine wp_seq_k ?_; intro K21 hK21
                 refine wlit ?_
                 refine wl_v (x_move (tmI rfl rfl)) ?_
                 refine wl_v (x_assign (tmI rfl rfl)) ?_
                 refine wl_nil ?_
                 refine then_n (hK21 _ _ ?_); clear hK21 K21
                 refine wp_seq_k ?_; intro K22 hK22
                 refine wlit ?_
                 refine wl_v (x_move (tmB rfl rfl)) ?_
                 refine wl_nil ?_
                 refine then_n (hK22 _ _ ?_); clear hK22 K22
                 refine cnd (tm rfl) (fun hc4 => ?_) (fun hc4 => ?_)
                 · try (exfalso; first | with_reducible exact absurd hc4 Bool.false_ne_true | with_reducible exact absurd hc4.symm Bool.false_ne_true | (simp only [nrm] at hc4; omega) | (simp at hc4; done))
                   all_goals
                    try simp only [nrm] at hc4
                    have hin : 0 ≤ (rs.getD k default).i ∧ (rs.getD k default).i < (q : Int) := by simpa using hc4
                    obtain ⟨k0, hi, hk0, rfl, rfl, rfl⟩ : ∃ k0 : Nat, (rs.getD k default).i = (k0 : Int) ∧ k0 < ls.length ∧ ls2 = cutL ls k0 ∧ x = ls.getD k0 default ∧ z = 0 := by
                      rcases hT with h | ⟨h, _⟩
                      · exact h
                      · rw [hq] at h; exact absurd hin h
                    clear hT
                    obtain ⟨gR, rfl⟩ := row_some (hS.rowOk 5 rfl) (by omega)
                    have hst := strip_get hls (k := k0) hk0
                    have hsame : (ls.getD k0 default).node = (rl.getD k0 default).node ∧ (ls.getD k0 default).back = (rl.getD k0 default).back ∧ (ls.getD k0 default).b.l = (rl.getD k0 default).b.l := by simpa [strip] using hst
                    have hxm : ls.getD k0 default ∈ ls := by
                      rw [List.getD_eq_getElem?_getD, List.getElem?_eq_getElem (by omega)]
                      exact List.getElem_mem _
                    have hym : rl.getD k0 default ∈ rl := by
                      rw [List.getD_eq_getElem?_getD, List.getElem?_eq_getElem (by omega)]
                      exact List.getElem_mem _
                    obtain ⟨⟨-, -, hyb, hyv⟩, -⟩ := hro _ hym
                    have hsubN : ∀ r ∈ cutL ls k0, r ∈ ls := cutL_mem
                    have hmN : (cutL rl k0).length = q - 1 := by rw [cutL_len (by omega), hm]
                    have hlsN := cutL_strip k0 hls
                    have hroN : ∀ r ∈ cutL rl k0, okB w0 r.b ∧ r.b.l.length ≤ 200 := fun r hr => hro r (cutL_mem r hr)
                    refine wp_seq_k ?_; intro K23 hK23
                    refine wlit ?_
                    refine wl_v (x_assign (ev_cN 0)) ?_
                    refine wl_nil ?_
                    refine then_n (hK23 _ _ ?_); clear hK23 K23
                    refine wp_seq_k ?_; intro K24 hK24
                    refine wp_seq_k ?_; intro K25 hK25
                    refine rg_startk 0 hS mixed_ ?_
                    clear hS; intro w hS
                    refine rg_take 0 rfl rfl (by kernel_rfl) (by kernel_rfl) (by kernel_rfl) (want_0) (fun w hok => x_loadA (cs := [_, _, _]) Try.underlying31 rfl ts_31 (tmP rfl rfl) (rangeB hok 0 rfl rfl)) ?_
                    refine rg_take 1 rfl rfl (by kernel_rfl) (by kernel_rfl) (by kernel_rfl) (want_0) (fun w hok => x_fa 1 Try.underlying40 rfl rfl ts_22 (tmP rfl rfl)) ?_
                    first
                     | refine rg_take 2 rfl rfl (by kernel_rfl) (by kernel_rfl) (by kernel_rfl) (want_0) (fun w hok => x_load Try.underlying22 rfl (tmP rfl rfl) (cellB hok 4 rfl rfl)) ?_
                     | refine rg_take 2 rfl rfl (by kernel_rfl) (by kernel_rfl) (by kernel_rfl) (want_0) (fun w hok => x_load Try.underlying22 rfl (tmP rfl rfl) (cellB hok 4 rfl (getm (by omega)))) ?_
                    refine rg_take 3 rfl rfl (by kernel_rfl) (by kernel_rfl) (by kernel_rfl) (want_0) (fun w hok => x_fa 4 Try.underlying42 rfl rfl ts_3 (tmP rfl rfl)) ?_
                    first
                     | refine rg_take 4 rfl rfl (by kernel_rfl) (by kernel_rfl) (by kernel_rfl) (want_0) (fun w hok => x_load Try.underlying3 rfl (tmP rfl rfl) (cellB hok 3 rfl rfl)) ?_
                     | refine rg_take 4 rfl rfl (by kernel_rfl) (by kernel_rfl) (by kernel_rfl) (want_0) (fun w hok => x_load Try.underlying3 rfl (tmP rfl rfl) (cellB hok 3 rfl (getm (by omega)))) ?_
                    refine rg_take 5 rfl rfl (by kernel_rfl) (by kernel_rfl) (by kernel_rfl) (want_0) (fun w hok => x_ixs Try.underlying22 ts_28 (tmS rfl rfl) (tmI rfl (congrArg (Value.int .i64) hi)) (by omega)) ?_
                    refine rg_take 6 rfl rfl (by kernel_rfl) (by kernel_rfl) (by kernel_rfl) (want_0) (fun w hok => x_loadA (cs := (rl.getD k0 default).V) Try.underlying28 rfl (by exact ts_28) (tmP rfl rfl) (rangeRs hok 5 rfl GLt.len (by omega))) ?_
                    refine rg_step 7 rfl (by kernel_rfl) (want_0) (oks_drop hS 0 rfl) ?_; intro K hK
                    refine ow_call Try.func11 rfl rfl (evs_cons (tmA rfl rfl) <| evs_cons (tmA rfl rfl) <| evs_nil) (same_c (ls.getD k0 default) (rl.getD k0 default) _ hsame (haw.step (hS.pick [1, 2, 4, 5] rfl rfl) rfl _ hxm).1 (view_on hyv (hSa.kpc (is := [1, 2, 3, 4]) rfl rfl hS)) hyb) ?_
                    rintro e w ⟨rfl, hk1⟩
                    refine ⟨_, rfl, ?_⟩
                    replace hS := hS.kept hk1
                    clear hk1
                    refine hK _ _ ?_; clear hK K
                    refine rg_take 8 rfl rfl (by kernel_rfl) (by kernel_rfl) (by kernel_rfl) (want_0) (fun w hok => x_not (tmB rfl rfl)) ?_
                    refine rg_done (oks_drop hS 0 rfl) (by kernel_rfl) ?_
                    refine then_n (hK25 _ _ ?_); clear hK25 K25
                    refine cnd (tm rfl) (fun hc5 => ?_) (fun hc5 => ?_)
                    · exfalso
                      simp at hc5
                    try (exfalso; first | with_reducible exact absurd hc5 Bool.false_ne_true | with_reducible exact absurd hc5.symm Bool.false_ne_true | (simp only [nrm] at hc5; omega) | (simp at hc5; done))
                    all_goals
                     try simp only [nrm] at hc5
                     refine wp_skip ?_
                     refine then_n (hK24 _ _ ?_); clear hK24 K24
                     refine wlit ?_
                     refine wl_v (x_loadA (cs := [_, _, _]) Try.underlying40 rfl ts_40 (tmP rfl rfl) (rangeB hS.ok 4 rfl rfl)) ?_
                     refine wl_v (x_fa 4 Try.underlying42 rfl rfl ts_3 (tmP rfl rfl)) ?_
                     first
                      | refine wl_v (x_load Try.underlying3 rfl (tmP rfl rfl) (cellB hS.ok 3 rfl rfl)) ?_
                      | refine wl_v (x_load Try.underlying3 rfl (tmP rfl rfl) (cellB hS.ok 3 rfl (getm (by omega)))) ?_
                     refine wl_e rfl ?_; intro K hK
                     refine ow_call Try.func13 rfl rfl (evs_cons (tmA rfl rfl) <| evs_cons (tmI rfl rfl) <| evs_nil) (rcut_c (max most 0) lost (some ⟨gR, 0, none⟩) q cr rl k0 (rs.getD k default).i _ hi (viewR hS.ok 5 rfl) hm (by omega) (by omega) hcr) ?_
                     rintro e w ⟨R2, cr2, rfl, hcrN, hn, hk1⟩
                     refine ⟨_, rfl, ?_⟩
                     replace hS := hS.orr 5 rfl rfl hk1 (.inl hn)
                     clear hn hk1
                     refine hK _ _ ?_; clear hK K
                     refine wl_e rfl ?_; intro K hK
                     refine ow_storeA hS 4 rfl ts_40 (tmP rfl rfl) (tmA rfl rfl) rfl rfl rfl ?_
                     clear hS; intro w hS
                     try replace hS := St.nm (M' := [.blk _ _ [_, _, _], .row _ _ _ _ _, _, .blk _ _ [_, _, _, _, _], .blk _ _ [_, _, _], .row _ _ _ _ _, .vw _ _, .vw _ _]) hS rfl
                     refine hK _ _ ?_; clear hK K
                     refine wl_nil ?_
                     exact then_n ⟨_, rfl, (by repeat (first | exact agree_self | exact agree_refl | refine agree_upd rfl ?_ | refine agree_mix rfl ?_)), _, _, _, _, _, _, _, _, _, _, (by first | rfl | go_num | exact congrArg (Value.int _) (by first | omega | (simp; done) | (simp; omega))), (by first | rfl | go_num | exact congrArg (Value.int _) (by first | omega | (simp; done) | (simp; omega))), (by first | exact hSa.leave [1, 2, 3, 4] [5] rfl rfl rfl ((hSb.leave [0, 1, 2, 3] [] rfl rfl rfl (hS.pick [1, 2, 4, 5] rfl rfl) rfl).pick [0, 1, 2, 3] rfl rfl) rfl | exact hSa.leave [1, 2, 3, 4] [5] rfl rfl rfl (hS.pick [1, 2, 4, 5] rfl rfl) rfl), (by exact hqN), (by exact hmN), (by first | exact hcrN | omega), (by exact hlsN), (by omega), (by exact hroN), (by first | exact hawN.step (hS.pick [1, 2, 4, 5] rfl rfl) rfl | exact (haw.step (hS.pick [1, 2, 4, 5] rfl rfl) rfl).sub hsubN)⟩
                 try (exfalso; first | with_reducible exact absurd hc4 Bool.false_ne_true | with_reducible exact absurd hc4.symm Bool.false_ne_true | (simp only [nrm] at hc4; omega) | (simp at hc4; done))
                 all_goals
                  try simp only [nrm] at hc4
                  have hno : ¬ (0 ≤ (rs.getD k default).i ∧ (rs.getD k default).i < (q : Int)) := by simpa using hc4
                  obtain ⟨rfl, rfl⟩ : ls = ls2 ∧ z = 6 := by
                    rcases hT with ⟨k0, h1, h2, _⟩ | ⟨_, h1, h2⟩
                    · exact absurd ⟨by omega, by omega⟩ hno
                    · exact ⟨h1.symm, h2⟩
                  clear hT
                  have hmN := hm
                  have hlsN := hls
                  have hroN := hro
                  have hcrN := hcr
                  have hsubN : ∀ r ∈ ls, r ∈ ls := fun r hr => hr
                  refine wp_skip ?_
                  exact then_n ⟨_, rfl, (by repeat (first | exact agree_self | exact agree_refl | refine agree_upd rfl ?_ | refine agree_mix rfl ?_)), _, _, _, _, _, _, _, _, _, _, (by first | rfl | go_num | exact congrArg (Value.int _) (by first | omega | (simp; done) | (simp; omega))), (by first | rfl | go_num | exact congrArg (Value.int _) (by first | omega | (simp; done) | (simp; omega))), (by first | exact hSa.leave [1, 2, 3, 4] [5] rfl rfl rfl ((hSb.leave [0, 1, 2, 3] [] rfl rfl rfl (hS.pick [1, 2, 4, 5] rfl rfl) rfl).pick [0, 1, 2, 3] rfl rfl) rfl | exact hSa.leave [1, 2, 3, 4] [5] rfl rfl rfl (hS.pick [1, 2, 4, 5] rfl rfl) rfl), (by exact hqN), (by exact hmN), (by first | exact hcrN | omega), (by exact hlsN), (by omega), (by exact hroN), (by first | exact hawN.step (hS.pick [1, 2, 4, 5] rfl rfl) rfl | exact (haw.step (hS.pick [1, 2, 4, 5] rfl rfl) rfl).sub hsubN)⟩
              try (exfalso; first | with_reducible exact absurd hc3 Bool.false_ne_true | with_reducible exact absurd hc3.symm Bool.false_ne_true | (simp only [nrm] at hc3; omega) | (simp at hc3; done))
              all_goals
               try simp only [nrm] at hc3
               refine wp_seq_k ?_; intro K26 hK26
               refine wlit ?_
               refine wl_v (x_eql (tmI rfl rfl) (ev_cN 2)) ?_
               refine wl_v (x_assign (tmB rfl rfl)) ?_
               refine wl_nil ?_
               refine then_n (hK26 _ _ ?_); clear hK26 K26
               refine cnd (tm rfl) (fun hc6 => ?_) (fun hc6 => ?_)
               · try (exfalso; first | with_reducible exact absurd hc6 Bool.false_ne_true | with_reducible exact absurd hc6.symm Bool.false_ne_true | (simp only [nrm] at hc6; omega) | (simp at hc6; done))
                 all_goals
                  try simp only [nrm] at hc6
                  refine wp_seq_k ?_; intro K27 hK27
                  refine wlit ?_
                  refine wl_v (x_move (tmP rfl rfl)) ?_
                  refine wl_v (x_fa 4 Try.underlying42 rfl rfl ts_3 (tmP rfl rfl)) ?_
                  first
                   | refine wl_v (x_load Try.underlying3 rfl (tmP rfl rfl) (cellB hS.ok 0 rfl rfl)) ?_
                   | refine wl_v (x_load Try.underlying3 rfl (tmP rfl rfl) (cellB hS.ok 0 rfl (getm (by omega)))) ?_
                  refine wl_e rfl ?_; intro K hK
                  refine ow_call Try.func14 rfl rfl (evs_cons (tmP rfl rfl) <| evs_cons (tmI rfl rfl) <| evs_nil) (mdrop_c gm Ka q ck ls (max most 0) lost (rs.getD k default).i _ _ (hS.enter [1, 2] [] rfl rfl) hq (by omega) (by omega)) ?_
                  rintro e w ⟨K2, q2, k2, ls2, x, z, rfl, hS2, hqN, hT, -⟩
                  refine ⟨_, rfl, ?_⟩
                  replace hS := hS.leave [1, 2] [0, 3, 4, 5, 6] rfl rfl rfl hS2 rfl -- --lead row,gm
                  clear hS2
                  try replace hS := St.nm (M' := [.row _ _ _ _ _, _, .blk _ _ [_, _, _, _, _], .blk _ _ [_, _, _], .row _ _ _ _ _, .vw _ _, .vw _ _]) hS rfl
                  refine hK _ _ ?_; clear hK K
                  refine wl_v (x_assign (tmI rfl rfl)) ?_
                  refine wl_nil ?_
                  refine then_n (hK27 _ _ ?_); clear hK27 K27
                  refine wp_seq_k ?_; intro K28 hK28
                  refine wlit ?_
                  refine wl_v (x_move (tmB rfl rfl)) ?_
                  refine wl_nil ?_
                  refine then_n (hK28 _ _ ?_); clear hK28 K28
                  refine cnd (tm rfl) (fun hc7 => ?_) (fun hc7 => ?_)
                  · try (exfalso; first | with_reducible exact absurd hc7 Bool.false_ne_true | with_reducible exact absurd hc7.symm Bool.false_ne_true | (simp only [nrm] at hc7; omega) | (simp at hc7; done))
                    all_goals
                     try simp only [nrm] at hc7
                     have hin : 0 ≤ (rs.getD k default).i ∧ (rs.getD k default).i < (q : Int) := by simpa using hc7
                     obtain ⟨k0, hi, hk0, rfl, rfl, rfl⟩ : ∃ k0 : Nat, (rs.getD k default).i = (k0 : Int) ∧ k0 < ls.length ∧ ls2 = cutL ls k0 ∧ x = ls.getD k0 default ∧ z = 0 := by
                       rcases hT with h | ⟨h, _⟩
                       · exact h
                       · rw [hq] at h; exact absurd hin h
                     clear hT
                     rw [if_pos rfl] at hS
                     obtain ⟨gR, rfl⟩ := row_some (hS.rowOk 4 rfl) (by omega)
                     have hst := strip_get hls (k := k0) hk0
                     have hsame : (ls.getD k0 default).node = (rl.getD k0 default).node ∧ (ls.getD k0 default).back = (rl.getD k0 default).back ∧ (ls.getD k0 default).b.l = (rl.getD k0 default).b.l := by simpa [strip] using hst
                     have hxm : ls.getD k0 default ∈ ls := by
                       rw [List.getD_eq_getElem?_getD, List.getElem?_eq_getElem (by omega)]
                       exact List.getElem_mem _
                     have hym : rl.getD k0 default ∈ rl := by
                       rw [List.getD_eq_getElem?_getD, List.getElem?_eq_getElem (by omega)]
                       exact List.getElem_mem _
                     obtain ⟨⟨-, -, hyb, hyv⟩, -⟩ := hro _ hym
                     have hsubN : ∀ r ∈ cutL ls k0, r ∈ ls := cutL_mem
                     have hmN : (cutL rl k0).length = q - 1 := by rw [cutL_len (by omega), hm]
                     have hlsN := cutL_strip k0 hls
                     have hroN : ∀ r ∈ cutL rl k0, okB w0 r.b ∧ r.b.l.length ≤ 200 := fun r hr => hro r (cutL_mem r hr)
                     refine wp_seq_k ?_; intro K29 hK29
                     refine wlit ?_
                     refine wl_v (x_assign (ev_cN 0)) ?_
                     refine wl_nil ?_
                     refine then_n (hK29 _ _ ?_); clear hK29 K29
                     refine wp_seq_k ?_; intro K30 hK30
                     refine wlit ?_
                     refine wl_v (x_loadA (cs := [_, _, _]) Try.underlying40 rfl ts_40 (tmP rfl rfl) (rangeB hS.ok 3 rfl rfl)) ?_
                     refine wl_v (x_fa 4 Try.underlying42 rfl rfl ts_3 (tmP rfl rfl)) ?_
                     first
                      | refine wl_v (x_load Try.underlying3 rfl (tmP rfl rfl) (cellB hS.ok 2 rfl rfl)) ?_
                      | refine wl_v (x_load Try.underlying3 rfl (tmP rfl rfl) (cellB hS.ok 2 rfl (getm (by omega)))) ?_
                     refine wl_e rfl ?_; intro K hK
                     refine ow_call Try.func13 rfl rfl (evs_cons (tmA rfl rfl) <| evs_cons (tmI rfl rfl) <| evs_nil) (rcut_c (max most 0) lost (some ⟨gR, 0, none⟩) q cr rl k0 (rs.getD k default).i _ hi (viewR hS.ok 4 rfl) hm (by omega) (by omega) hcr) ?_
                     rintro e w ⟨R2, cr2, rfl, hcrN, hn, hk1⟩
                     refine ⟨_, rfl, ?_⟩
                     replace hS := hS.orr 4 rfl rfl hk1 (.inl hn)
                     clear hn hk1
                     refine hK _ _ ?_; clear hK K
                     refine wl_e rfl ?_; intro K hK
                     refine ow_storeA hS 3 rfl ts_40 (tmP rfl rfl) (tmA rfl rfl) rfl rfl rfl ?_
                     clear hS; intro w hS
                     try replace hS := St.nm (M' := [.row _ _ _ _ _, _, .blk _ _ [_, _, _, _, _], .blk _ _ [_, _, _], .row _ _ _ _ _, .vw _ _, .vw _ _]) hS rfl
                     refine hK _ _ ?_; clear hK K
                     refine wl_nil ?_
                     refine then_n (hK30 _ _ ?_); clear hK30 K30
                     refine wlit ?_
                     refine wl_v (x_fa 2 Try.underlying40 rfl rfl ts_3 (tmP rfl rfl)) ?_
                     first
                      | refine wl_v (x_load Try.underlying3 rfl (tmP rfl rfl) (cellB hS.ok 3 rfl rfl)) ?_
                      | refine wl_v (x_load Try.underlying3 rfl (tmP rfl rfl) (cellB hS.ok 3 rfl (getm (by omega)))) ?_
                     first
                      | refine wl_v (x_addN (tmI rfl rfl) (ev_cN 1) (fit_i64 (by omega))) ?_
                      | refine wl_v (x_addI (tmI rfl rfl) (ev_cN 1) (IntWalk.i64_in _ (by omega))) ?_
                      | refine wl_v (x_add (tmI rfl rfl) (ev_cN 1)) ?_
                     refine wl_v (x_fa 2 Try.underlying40 rfl rfl ts_3 (tmP rfl rfl)) ?_
                     refine wl_e rfl ?_; intro K hK
                     first
                      | refine ow_store hS 3 rfl ts_3 (tmP rfl rfl) (tmI rfl rfl) rfl rfl ?_
                      | refine ow_storeX hS 3 rfl ts_3 (tmP rfl rfl) (tmI rfl rfl) rfl (by simp; omega) ?_
                     clear hS; intro w hS
                     try replace hS := St.nm (M' := [.row _ _ _ _ _, _, .blk _ _ [_, _, _, _, _], .blk _ _ [_, _, _], .row _ _ _ _ _, .vw _ _, .vw _ _]) hS rfl
                     refine hK _ _ ?_; clear hK K
                     refine wl_nil ?_
                     exact then_n ⟨_, rfl, (by repeat (first | exact agree_self | exact agree_refl | refine agree_upd rfl ?_ | refine agree_mix rfl ?_)), _, _, _, _, _, _, _, _, _, _, (by first | rfl | go_num | exact congrArg (Value.int _) (by first | omega | (simp; done) | (simp; omega))), (by first | rfl | go_num | exact congrArg (Value.int _) (by first | omega | (simp; done) | (simp; omega))), (by first | exact hSa.leave [1, 2, 3, 4] [5] rfl rfl rfl ((hSb.leave [0, 1, 2, 3] [] rfl rfl rfl (hS.pick [0, 1, 3, 4] rfl rfl) rfl).pick [0, 1, 2, 3] rfl rfl) rfl | exact hSa.leave [1, 2, 3, 4] [5] rfl rfl rfl (hS.pick [0, 1, 3, 4] rfl rfl) rfl), (by exact hqN), (by exact hmN), (by first | exact hcrN | omega), (by exact hlsN), (by omega), (by exact hroN), (by first | exact hawN.step (hS.pick [0, 1, 3, 4] rfl rfl) rfl | exact (haw.step (hS.pick [0, 1, 3, 4] rfl rfl) rfl).sub hsubN)⟩
                  try (exfalso; first | with_reducible exact absurd hc7 Bool.false_ne_true | with_reducible exact absurd hc7.symm Bool.false_ne_true | (simp only [nrm] at hc7; omega) | (simp at hc7; done))
                  all_goals
                   try simp only [nrm] at hc7
                   have hno : ¬ (0 ≤ (rs.getD k default).i ∧ (rs.getD k default).i < (q : Int)) := by simpa using hc7
                   obtain ⟨rfl, rfl⟩ : ls = ls2 ∧ z = 6 := by
                     rcases hT with ⟨k0, h1, h2, _⟩ | ⟨_, h1, h2⟩
                     · exact absurd ⟨by omega, by omega⟩ hno
                     · exact ⟨h1.symm, h2⟩
                   clear hT
                   rw [if_neg (by decide)] at hS
                   have hmN := hm
                   have hlsN := hls
                   have hroN := hro
                   have hcrN := hcr
                   have hsubN : ∀ r ∈ ls, r ∈ ls := fun r hr => hr
                   refine wp_skip ?_
                   exact then_n ⟨_, rfl, (by repeat (first | exact agree_self | exact agree_refl | refine agree_upd rfl ?_ | refine agree_mix rfl ?_)), _, _, _, _, _, _, _, _, _, _, (by first | rfl | go_num | exact congrArg (Value.int _) (by first | omega | (simp; done) | (simp; omega))), (by first | rfl | go_num | exact congrArg (Value.int _) (by first | omega | (simp; done) | (simp; omega))), (by first | exact hSa.leave [1, 2, 3, 4] [5] rfl rfl rfl ((hSb.leave [0, 1, 2, 3] [] rfl rfl rfl (hS.pick [0, 1, 3, 4] rfl rfl) rfl).pick [0, 1, 2, 3] rfl rfl) rfl | exact hSa.leave [1, 2, 3, 4] [5] rfl rfl rfl (hS.pick [0, 1, 3, 4] rfl rfl) rfl), (by exact hqN), (by exact hmN), (by first | exact hcrN | omega), (by exact hlsN), (by omega), (by exact hroN), (by first | exact hawN.step (hS.pick [0, 1, 3, 4] rfl rfl) rfl | exact (haw.step (hS.pick [0, 1, 3, 4] rfl rfl) rfl).sub hsubN)⟩
               try (exfalso; first | with_reducible exact absurd hc6 Bool.false_ne_true | with_reducible exact absurd hc6.symm Bool.false_ne_true | (simp only [nrm] at hc6; omega) | (simp at hc6; done))
               all_goals
                try simp only [nrm] at hc6
                refine wp_seq_k ?_; intro K31 hK31
                refine wlit ?_
                refine wl_v (x_eql (tmI rfl rfl) (ev_cN 3)) ?_
                refine wl_v (x_assign (tmB rfl rfl)) ?_
                refine wl_nil ?_
                refine then_n (hK31 _ _ ?_); clear hK31 K31
                refine cnd (tm rfl) (fun hc8 => ?_) (fun hc8 => ?_)
                · try (exfalso; first | with_reducible exact absurd hc8 Bool.false_ne_true | with_reducible exact absurd hc8.symm Bool.false_ne_true | (simp only [nrm] at hc8; omega) | (simp at hc8; done))
                  all_goals
                   try simp only [nrm] at hc8
                   refine wp_seq_k ?_; intro K32 hK32
                   refine wlit ?_
                   refine wl_v (x_move (tmP rfl rfl)) ?_
                   refine wl_v (x_fa 4 Try.underlying42 rfl rfl ts_3 (tmP rfl rfl)) ?_
                   first
                    | refine wl_v (x_load Try.underlying3 rfl (tmP rfl rfl) (cellB hS.ok 0 rfl rfl)) ?_
                    | refine wl_v (x_load Try.underlying3 rfl (tmP rfl rfl) (cellB hS.ok 0 rfl (getm (by omega)))) ?_
                   refine wl_e rfl ?_; intro K hK
                   refine ow_call Try.func15 rfl rfl (evs_cons (tmP rfl rfl) <| evs_cons (tmI rfl rfl) <| evs_nil) (mtwice_c gm Ka q ck ls (max most 0) lost (rs.getD k default).i _ _ (hS.enter [1, 2] [] rfl rfl) (Aws.left (M := [_, _]) (haw.step (hS.pick [1, 2, 3, 4] rfl rfl) rfl)) (strip_len hls fun r hr => Nat.le_trans (hro r hr).2 (by omega)) hq (by omega) (by omega)) ?_
                   rintro e w ⟨K2, q2, k2, ls2, lost2, z, rfl, hS2, hqN, hP, hA⟩
                   refine ⟨_, rfl, ?_⟩
                   have hawN : Aws w (blks [.row (.slice K2 q2 k2) 31 3 q2 (flat GLt.V ls2), .blk gm 52 [.slice K2 q2 k2, .int .i64 (max most 0), .int .i64 ((lost2 : Nat) : Int)], .blk g3_5 40 [.int .i64 (max most 0), .slice R q cr, .int .i64 ((lost : Nat) : Int)], .row (.slice R q cr) 28 3 q (flat GLt.V rl)]) ls2 := hA.use (N := [_, _]) (haw.step (hS.pick [1, 2, 3, 4] rfl rfl) rfl) fun e he => (hS.pick [3, 4] rfl rfl).ok e he
                   have hSb := hS.leave [1, 2] [3, 4, 0, 5, 6] rfl rfl rfl hS2 rfl
                   clear hS2
                   replace hS := hSb.enter [0, 1, 2, 3] [4, 5, 6] rfl rfl --ents row,gm,g3_5,rowr,vt,vx,vw
                   try replace hS := St.nm (M' := [.row _ _ _ _ _, _, .blk _ _ [_, _, _], .row _ _ _ _ _, .vw _ _, .vw _ _, .vw _ _]) hS rfl
                   refine hK _ _ ?_; clear hK K
                   refine wl_v (x_assign (tmI rfl rfl)) ?_
                   refine wl_nil ?_
                   refine then_n (hK32 _ _ ?_); clear hK32 K32
                   refine wp_seq_k ?_; intro K33 hK33
                   refine wlit ?_
                   refine wl_v (x_move (tmB rfl rfl)) ?_
                   refine wl_nil ?_
                   refine then_n (hK33 _ _ ?_); clear hK33 K33
                   refine cnd (tm rfl) (fun hc9 => ?_) (fun hc9 => ?_)
                   · try (exfalso; first | with_reducible exact absurd hc9 Bool.false_ne_true | with_reducible exact absurd hc9.symm Bool.false_ne_true | (simp only [nrm] at hc9; omega) | (simp at hc9; done))
                     all_goals
                      try simp only [nrm] at hc9
                      have hin : 0 ≤ (rs.getD k default).i ∧ (rs.getD k default).i < (q : Int) := by simpa using hc9
                      obtain ⟨k0, hi, hk0, hP⟩ : ∃ k0 : Nat, (rs.getD k default).i = (k0 : Int) ∧ k0 < ls.length ∧ SendP (max most 0) (ls.map strip) lost (strip (ls.getD k0 default)) (ls2.map strip) lost2 z := by
                        rcases hP with h | ⟨h, _⟩
                        · exact h
                        · rw [hq] at h; exact absurd hin h
                      obtain ⟨gR, rfl⟩ := row_some (hS.rowOk 3 rfl) (by omega)
                      have hst := strip_get hls (k := k0) hk0
                      have hym : rl.getD k0 default ∈ rl := by
                        rw [List.getD_eq_getElem?_getD, List.getElem?_eq_getElem (by omega)]
                        exact List.getElem_mem _
                      have hyo := hro _ hym
                      refine rg_startk 4 hS mixed_ ?_
                      clear hS; intro w hS
                      refine rg_take 1 rfl rfl (by kernel_rfl) (by kernel_rfl) (by kernel_rfl) (want_0) (fun w hok => x_fa 1 Try.underlying40 rfl rfl ts_22 (tmP rfl rfl)) ?_
                      refine rg_take 3 rfl rfl (by kernel_rfl) (by kernel_rfl) (by kernel_rfl) (want_0) (fun w hok => x_fa 4 Try.underlying42 rfl rfl ts_3 (tmP rfl rfl)) ?_
                      first
                       | refine rg_take 4 rfl rfl (by kernel_rfl) (by kernel_rfl) (by kernel_rfl) (want_0) (fun w hok => x_load Try.underlying3 rfl (tmP rfl rfl) (cellV hok 0 rfl rfl)) ?_
                       | refine rg_take 4 rfl rfl (by kernel_rfl) (by kernel_rfl) (by kernel_rfl) (want_0) (fun w hok => x_load Try.underlying3 rfl (tmP rfl rfl) (cellV hok 0 rfl (getm (by omega)))) ?_
                       | refine rg_take 4 rfl rfl (by kernel_rfl) (by kernel_rfl) (by kernel_rfl) (want_0) (fun w hok => x_load Try.underlying3 rfl (tmP rfl rfl) (cellVs hok 0 rfl (fun _ => rfl) rfl (by omega) rfl)) ?_
                       | refine rg_take 4 rfl rfl (by kernel_rfl) (by kernel_rfl) (by kernel_rfl) (want_0) (fun w hok => x_load Try.underlying3 rfl (tmP rfl rfl) (cellV hok 1 rfl rfl)) ?_
                       | refine rg_take 4 rfl rfl (by kernel_rfl) (by kernel_rfl) (by kernel_rfl) (want_0) (fun w hok => x_load Try.underlying3 rfl (tmP rfl rfl) (cellV hok 1 rfl (getm (by omega)))) ?_
                       | refine rg_take 4 rfl rfl (by kernel_rfl) (by kernel_rfl) (by kernel_rfl) (want_0) (fun w hok => x_load Try.underlying3 rfl (tmP rfl rfl) (cellVs hok 1 rfl (fun _ => rfl) rfl (by omega) rfl)) ?_
                       | refine rg_take 4 rfl rfl (by kernel_rfl) (by kernel_rfl) (by kernel_rfl) (want_0) (fun w hok => x_load Try.underlying3 rfl (tmP rfl rfl) (cellV hok 2 rfl rfl)) ?_
                       | refine rg_take 4 rfl rfl (by kernel_rfl) (by kernel_rfl) (by kernel_rfl) (want_0) (fun w hok => x_load Try.underlying3 rfl (tmP rfl rfl) (cellV hok 2 rfl (getm (by omega)))) ?_
                       | refine rg_take 4 rfl rfl (by kernel_rfl) (by kernel_rfl) (by kernel_rfl) (want_0) (fun w hok => x_load Try.underlying3 rfl (tmP rfl rfl) (cellVs hok 2 rfl (fun _ => rfl) rfl (by omega) rfl)) ?_
                      refine rg_step2 0 2 rfl rfl (by kernel_rfl) (want_0) (want_0) (oks_drop hS 4 rfl) ?_ ?_
                      · intro K hK
                        first
                         | refine ow_v (x_loadA (cs := [_, _, _]) Try.underlying40 rfl ts_40 (tmP rfl rfl) (rangeB hS.ok 2 rfl rfl)) ?_
                        refine hK _ _ ?_; clear hK K
                        refine rg_step 2 rfl (by kernel_rfl) (want_0) (oks_drop hS 4 rfl) ?_; intro K hK
                        first
                         | refine ow_v (x_load Try.underlying22 rfl (tmP rfl rfl) (cellB hS.ok 2 rfl rfl)) ?_
                         | refine ow_v (x_load Try.underlying22 rfl (tmP rfl rfl) (cellB hS.ok 2 rfl (getm (by omega)))) ?_
                        refine hK _ _ ?_; clear hK K
                        refine rg_take 5 rfl rfl (by kernel_rfl) (by kernel_rfl) (by kernel_rfl) (want_0) (fun w hok => x_ixs Try.underlying22 ts_28 (tmS rfl rfl) (tmI rfl (congrArg (Value.int .i64) hi)) (by omega)) ?_
                        refine rg_step 6 rfl (by kernel_rfl) (want_0) (oks_drop hS 4 rfl) ?_; intro K hK
                        refine ow_v (x_loadA (cs := (rl.getD k0 default).V) Try.underlying28 rfl (by exact ts_28) (tmP rfl rfl) (rangeRs hS.ok 3 rfl GLt.len (by omega))) ?_
                        refine hK _ _ ?_; clear hK K
                        refine rg_step 7 rfl (by kernel_rfl) (want_0) (oks_drop hS 4 rfl) ?_; intro K hK
                        refine ow_call Try.func16 rfl rfl (evs_cons (tmA rfl rfl) <| evs_cons (tmA rfl rfl) <| evs_nil) (rsend_c (max most 0) lost (some ⟨gR, 0, none⟩) q cr rl (rl.getD k0 default) _ (viewR hS.ok 3 rfl) hm (by omega) hcr (by omega)) ?_
                        rintro e w ⟨R2, m2, cr2, rl2, lost3, z2, rfl, hmN, hcrN, hRP, hn, hk1⟩
                        refine ⟨_, rfl, ?_⟩
                        replace hS := hS.orr 3 rfl rfl hk1 hn
                        clear hn hk1
                        obtain ⟨hlsN, rfl, rfl, hbN, hb3, hsubr⟩ := send_same hP hRP hls hst
                        have hroN : ∀ r ∈ rl2, okB w0 r.b ∧ r.b.l.length ≤ 200 := fun r hr => by
                          rcases hsubr r hr with h | rfl
                          · exact hro r h
                          · exact hyo
                        refine hK _ _ ?_; clear hK K
                        refine rg_take 8 rfl rfl (by kernel_rfl) (by kernel_rfl) (by kernel_rfl) (want_0) (fun w hok => x_move (tmT rfl rfl)) ?_
                        refine rg_take 9 rfl rfl (by kernel_rfl) (by kernel_rfl) (by kernel_rfl) (want_0) (fun w hok => x_ext (tmT rfl rfl) rfl) ?_
                        refine rg_take 10 rfl rfl (by kernel_rfl) (by kernel_rfl) (by kernel_rfl) (want_0) (fun w hok => x_ext (tmT rfl rfl) rfl) ?_
                        refine rg_step 11 rfl (by kernel_rfl) (want_0) (oks_drop hS 4 rfl) ?_; intro K hK
                        refine ow_storeA hS 2 rfl ts_40 (tmP rfl rfl) (tmA rfl rfl) rfl rfl rfl ?_
                        clear hS; intro w hS
                        try replace hS := St.nm (M' := [.row _ _ _ _ _, _, .blk _ _ [_, _, _], .row _ _ _ _ _, .vw _ _, .vw _ _, .vw _ _]) hS rfl
                        refine hK _ _ ?_; clear hK K
                        refine rg_take 12 rfl rfl (by kernel_rfl) (by kernel_rfl) (by kernel_rfl) (want_0) (fun w hok => x_assign (tmI rfl rfl)) ?_
                        refine rg_done (oks_drop hS 4 rfl) (by kernel_rfl) ?_
                        exact then_n ⟨_, rfl, (by repeat (first | exact agree_self | exact agree_refl | refine agree_upd rfl ?_ | refine agree_mix rfl ?_)), _, _, _, _, _, _, _, _, _, _, (by first | rfl | go_num | exact congrArg (Value.int _) (by first | omega | (simp; done) | (simp; omega))), (by first | rfl | go_num | exact congrArg (Value.int _) (by first | omega | (simp; done) | (simp; omega))), (by first | exact hSa.leave [1, 2, 3, 4] [5] rfl rfl rfl ((hSb.leave [0, 1, 2, 3] [] rfl rfl rfl (hS.pick [0, 1, 2, 3] rfl rfl) rfl).pick [0, 1, 2, 3] rfl rfl) rfl | exact hSa.leave [1, 2, 3, 4] [5] rfl rfl rfl (hS.pick [0, 1, 2, 3] rfl rfl) rfl), (by exact hqN), (by exact hmN), (by first | exact hcrN | omega), (by exact hlsN), (by omega), (by exact hroN), (by first | exact hawN.step (hS.pick [0, 1, 2, 3] rfl rfl) rfl | exact (haw.step (hS.pick [0, 1, 2, 3] rfl rfl) rfl).sub hsubN)⟩
                      · intro K hK
                        first
                         | refine ow_v (x_load Try.underlying22 rfl (tmP rfl rfl) (cellB hS.ok 2 rfl rfl)) ?_
                         | refine ow_v (x_load Try.underlying22 rfl (tmP rfl rfl) (cellB hS.ok 2 rfl (getm (by omega)))) ?_
                        refine hK _ _ ?_; clear hK K
                        refine rg_take 5 rfl rfl (by kernel_rfl) (by kernel_rfl) (by kernel_rfl) (want_0) (fun w hok => x_ixs Try.underlying22 ts_28 (tmS rfl rfl) (tmI rfl (congrArg (Value.int .i64) hi)) (by omega)) ?_
                        refine rg_step2 0 6 rfl rfl (by kernel_rfl) (want_0) (want_0) (oks_drop hS 4 rfl) ?_ ?_
                        · intro K hK
                          first
                           | refine ow_v (x_loadA (cs := [_, _, _]) Try.underlying40 rfl ts_40 (tmP rfl rfl) (rangeB hS.ok 2 rfl rfl)) ?_
                          refine hK _ _ ?_; clear hK K
                          refine rg_step 6 rfl (by kernel_rfl) (want_0) (oks_drop hS 4 rfl) ?_; intro K hK
                          refine ow_v (x_loadA (cs := (rl.getD k0 default).V) Try.underlying28 rfl (by exact ts_28) (tmP rfl rfl) (rangeRs hS.ok 3 rfl GLt.len (by omega))) ?_
                          refine hK _ _ ?_; clear hK K
                          refine rg_step 7 rfl (by kernel_rfl) (want_0) (oks_drop hS 4 rfl) ?_; intro K hK
                          refine ow_call Try.func16 rfl rfl (evs_cons (tmA rfl rfl) <| evs_cons (tmA rfl rfl) <| evs_nil) (rsend_c (max most 0) lost (some ⟨gR, 0, none⟩) q cr rl (rl.getD k0 default) _ (viewR hS.ok 3 rfl) hm (by omega) hcr (by omega)) ?_
                          rintro e w ⟨R2, m2, cr2, rl2, lost3, z2, rfl, hmN, hcrN, hRP, hn, hk1⟩
                          refine ⟨_, rfl, ?_⟩
                          replace hS := hS.orr 3 rfl rfl hk1 hn
                          clear hn hk1
                          obtain ⟨hlsN, rfl, rfl, hbN, hb3, hsubr⟩ := send_same hP hRP hls hst
                          have hroN : ∀ r ∈ rl2, okB w0 r.b ∧ r.b.l.length ≤ 200 := fun r hr => by
                            rcases hsubr r hr with h | rfl
                            · exact hro r h
                            · exact hyo
                          refine hK _ _ ?_; clear hK K
                          refine rg_take 8 rfl rfl (by kernel_rfl) (by kernel_rfl) (by kernel_rfl) (want_0) (fun w hok => x_move (tmT rfl rfl)) ?_
                          refine rg_take 9 rfl rfl (by kernel_rfl) (by kernel_rfl) (by kernel_rfl) (want_0) (fun w hok => x_ext (tmT rfl rfl) rfl) ?_
                          refine rg_take 10 rfl rfl (by kernel_rfl) (by kernel_rfl) (by kernel_rfl) (want_0) (fun w hok => x_ext (tmT rfl rfl) rfl) ?_
                          refine rg_step 11 rfl (by kernel_rfl) (want_0) (oks_drop hS 4 rfl) ?_; intro K hK
                          refine ow_storeA hS 2 rfl ts_40 (tmP rfl rfl) (tmA rfl rfl) rfl rfl rfl ?_
                          clear hS; intro w hS
                          try replace hS := St.nm (M' := [.row _ _ _ _ _, _, .blk _ _ [_, _, _], .row _ _ _ _ _, .vw _ _, .vw _ _, .vw _ _]) hS rfl
                          refine hK _ _ ?_; clear hK K
                          refine rg_take 12 rfl rfl (by kernel_rfl) (by kernel_rfl) (by kernel_rfl) (want_0) (fun w hok => x_assign (tmI rfl rfl)) ?_
                          refine rg_done (oks_drop hS 4 rfl) (by kernel_rfl) ?_
                          exact then_n ⟨_, rfl, (by repeat (first | exact agree_self | exact agree_refl | refine agree_upd rfl ?_ | refine agree_mix rfl ?_)), _, _, _, _, _, _, _, _, _, _, (by first | rfl | go_num | exact congrArg (Value.int _) (by first | omega | (simp; done) | (simp; omega))), (by first | rfl | go_num | exact congrArg (Value.int _) (by first | omega | (simp; done) | (simp; omega))), (by first | exact hSa.leave [1, 2, 3, 4] [5] rfl rfl rfl ((hSb.leave [0, 1, 2, 3] [] rfl rfl rfl (hS.pick [0, 1, 2, 3] rfl rfl) rfl).pick [0, 1, 2, 3] rfl rfl) rfl | exact hSa.leave [1, 2, 3, 4] [5] rfl rfl rfl (hS.pick [0, 1, 2, 3] rfl rfl) rfl), (by exact hqN), (by exact hmN), (by first | exact hcrN | omega), (by exact hlsN), (by omega), (by exact hroN), (by first | exact hawN.step (hS.pick [0, 1, 2, 3] rfl rfl) rfl | exact (haw.step (hS.pick [0, 1, 2, 3] rfl rfl) rfl).sub hsubN)⟩
                        · intro K hK
                          first
                           | refine ow_v (x_loadA (cs := (rl.getD k0 default).V) Try.underlying28 rfl (by exact ts_28) (tmP rfl rfl) (rangeRs hS.ok 3 rfl GLt.len (by omega))) ?_
                          refine hK _ _ ?_; clear hK K
                          refine rg_step 0 rfl (by kernel_rfl) (want_0) (oks_drop hS 4 rfl) ?_; intro K hK
                          refine ow_v (x_loadA (cs := [_, _, _]) Try.underlying40 rfl ts_40 (tmP rfl rfl) (rangeB hS.ok 2 rfl rfl)) ?_
                          refine hK _ _ ?_; clear hK K
                          refine rg_step 7 rfl (by kernel_rfl) (want_0) (oks_drop hS 4 rfl) ?_; intro K hK
                          refine ow_call Try.func16 rfl rfl (evs_cons (tmA rfl rfl) <| evs_cons (tmA rfl rfl) <| evs_nil) (rsend_c (max most 0) lost (some ⟨gR, 0, none⟩) q cr rl (rl.getD k0 default) _ (viewR hS.ok 3 rfl) hm (by omega) hcr (by omega)) ?_
                          rintro e w ⟨R2, m2, cr2, rl2, lost3, z2, rfl, hmN, hcrN, hRP, hn, hk1⟩
                          refine ⟨_, rfl, ?_⟩
                          replace hS := hS.orr 3 rfl rfl hk1 hn
                          clear hn hk1
                          obtain ⟨hlsN, rfl, rfl, hbN, hb3, hsubr⟩ := send_same hP hRP hls hst
                          have hroN : ∀ r ∈ rl2, okB w0 r.b ∧ r.b.l.length ≤ 200 := fun r hr => by
                            rcases hsubr r hr with h | rfl
                            · exact hro r h
                            · exact hyo
                          refine hK _ _ ?_; clear hK K
                          refine rg_take 8 rfl rfl (by kernel_rfl) (by kernel_rfl) (by kernel_rfl) (want_0) (fun w hok => x_move (tmT rfl rfl)) ?_
                          refine rg_take 9 rfl rfl (by kernel_rfl) (by kernel_rfl) (by kernel_rfl) (want_0) (fun w hok => x_ext (tmT rfl rfl) rfl) ?_
                          refine rg_take 10 rfl rfl (by kernel_rfl) (by kernel_rfl) (by kernel_rfl) (want_0) (fun w hok => x_ext (tmT rfl rfl) rfl) ?_
                          refine rg_step 11 rfl (by kernel_rfl) (want_0) (oks_drop hS 4 rfl) ?_; intro K hK
                          refine ow_storeA hS 2 rfl ts_40 (tmP rfl rfl) (tmA rfl rfl) rfl rfl rfl ?_
                          clear hS; intro w hS
                          try replace hS := St.nm (M' := [.row _ _ _ _ _, _, .blk _ _ [_, _, _], .row _ _ _ _ _, .vw _ _, .vw _ _, .vw _ _]) hS rfl
                          refine hK _ _ ?_; clear hK K
                          refine rg_take 12 rfl rfl (by kernel_rfl) (by kernel_rfl) (by kernel_rfl) (want_0) (fun w hok => x_assign (tmI rfl rfl)) ?_
                          refine rg_done (oks_drop hS 4 rfl) (by kernel_rfl) ?_
                          exact then_n ⟨_, rfl, (by repeat (first | exact agree_self | exact agree_refl | refine agree_upd rfl ?_ | refine agree_mix rfl ?_)), _, _, _, _, _, _, _, _, _, _, (by first | rfl | go_num | exact congrArg (Value.int _) (by first | omega | (simp; done) | (simp; omega))), (by first | rfl | go_num | exact congrArg (Value.int _) (by first | omega | (simp; done) | (simp; omega))), (by first | exact hSa.leave [1, 2, 3, 4] [5] rfl rfl rfl ((hSb.leave [0, 1, 2, 3] [] rfl rfl rfl (hS.pick [0, 1, 2, 3] rfl rfl) rfl).pick [0, 1, 2, 3] rfl rfl) rfl | exact hSa.leave [1, 2, 3, 4] [5] rfl rfl rfl (hS.pick [0, 1, 2, 3] rfl rfl) rfl), (by exact hqN), (by exact hmN), (by first | exact hcrN | omega), (by exact hlsN), (by omega), (by exact hroN), (by first | exact hawN.step (hS.pick [0, 1, 2, 3] rfl rfl) rfl | exact (haw.step (hS.pick [0, 1, 2, 3] rfl rfl) rfl).sub hsubN)⟩
                   try (exfalso; first | with_reducible exact absurd hc9 Bool.false_ne_true | with_reducible exact absurd hc9.symm Bool.false_ne_true | (simp only [nrm] at hc9; omega) | (simp at hc9; done))
                   all_goals
                    try simp only [nrm] at hc9
                    have hno : ¬ (0 ≤ (rs.getD k default).i ∧ (rs.getD k default).i < (q : Int)) := by simpa using hc9
                    obtain ⟨hlsN, rfl, rfl⟩ : ls2.map strip = rl.map strip ∧ lost = lost2 ∧ z = 6 := by
                      rcases hP with ⟨k0, h1, h2, _⟩ | ⟨_, h1, h2, h3⟩
                      · exact absurd ⟨by omega, by omega⟩ hno
                      · exact ⟨h1.trans hls, h2.symm, h3⟩
                    clear hP
                    have hmN := hm
                    have hroN := hro
                    have hcrN := hcr
                    refine wp_skip ?_
                    exact then_n ⟨_, rfl, (by repeat (first | exact agree_self | exact agree_refl | refine agree_upd rfl ?_ | refine agree_mix rfl ?_)), _, _, _, _, _, _, _, _, _, _, (by first | rfl | go_num | exact congrArg (Value.int _) (by first | omega | (simp; done) | (simp; omega))), (by first | rfl | go_num | exact congrArg (Value.int _) (by first | omega | (simp; done) | (simp; omega))), (by first | exact hSa.leave [1, 2, 3, 4] [5] rfl rfl rfl ((hSb.leave [0, 1, 2, 3] [] rfl rfl rfl (hS.pick [0, 1, 2, 3] rfl rfl) rfl).pick [0, 1, 2, 3] rfl rfl) rfl | exact hSa.leave [1, 2, 3, 4] [5] rfl rfl rfl (hS.pick [0, 1, 2, 3] rfl rfl) rfl), (by exact hqN), (by exact hmN), (by first | exact hcrN | omega), (by exact hlsN), (by omega), (by exact hroN), (by first | exact hawN.step (hS.pick [0, 1, 2, 3] rfl rfl) rfl | exact (haw.step (hS.pick [0, 1, 2, 3] rfl rfl) rfl).sub hsubN)⟩
                try (exfalso; first | with_reducible exact absurd hc8 Bool.false_ne_true | with_reducible exact absurd hc8.symm Bool.false_ne_true | (simp only [nrm] at hc8; omega) | (simp at hc8; done))
                all_goals
                 try simp only [nrm] at hc8
                 refine wp_seq_k ?_; intro K34 hK34
                 refine wlit ?_
                 refine wl_v (x_eql (tmI rfl rfl) (ev_cN 4)) ?_
                 refine wl_v (x_assign (tmB rfl rfl)) ?_
                 refine wl_nil ?_
                 refine then_n (hK34 _ _ ?_); clear hK34 K34
                 refine cnd (tm rfl) (fun hc10 => ?_) (fun hc10 => ?_)
                 · try (exfalso; first | with_reducible exact absurd hc10 Bool.false_ne_true | with_reducible exact absurd hc10.symm Bool.false_ne_true | (simp only [nrm] at hc10; omega) | (simp at hc10; done))
                   all_goals
                    try simp only [nrm] at hc10
                    refine wp_seq_k ?_; intro K35 hK35
                    refine wlit ?_
                    refine wl_v (x_assign (ev_cN 0)) ?_
                    refine wl_nil ?_
                    refine then_n (hK35 _ _ ?_); clear hK35 K35
                    refine wp_seq_k ?_; intro K36 hK36
                    refine wlit ?_
                    refine wl_v (x_loadA (cs := [_, _, _]) Try.underlying40 rfl ts_40 (tmP rfl rfl) (rangeB hS.ok 3 rfl rfl)) ?_
                    refine wl_v (x_fa 4 Try.underlying42 rfl rfl ts_3 (tmP rfl rfl)) ?_
                    first
                     | refine wl_v (x_load Try.underlying3 rfl (tmP rfl rfl) (cellB hS.ok 0 rfl rfl)) ?_
                     | refine wl_v (x_load Try.underlying3 rfl (tmP rfl rfl) (cellB hS.ok 0 rfl (getm (by omega)))) ?_
                    refine wl_e rfl ?_; intro K hK
                    refine ow_call Try.func17 rfl rfl (evs_cons (tmA rfl rfl) <| evs_cons (tmI rfl rfl) <| evs_nil) (rclear_c (max most 0) lost R q cr rl (rs.getD k default).i _ (viewR hS.ok 4 rfl) hm (by omega) hcr (by omega)) ?_
                    rintro e w ⟨R2, m2, cr2, cl, hme, hclr, rfl, hcrN, hn, hk1⟩
                    refine ⟨_, rfl, ?_⟩
                    replace hS := hS.orr 4 rfl rfl hk1 (.inl hn)
                    clear hn hk1
                    refine hK _ _ ?_; clear hK K
                    refine wl_v (x_move (tmT rfl rfl)) ?_
                    refine wl_v (x_ext (tmT rfl rfl) rfl) ?_
                    refine wl_v (x_ext (tmT rfl rfl) rfl) ?_
                    refine wl_e rfl ?_; intro K hK
                    refine ow_storeA hS 3 rfl ts_40 (tmP rfl rfl) (tmA rfl rfl) rfl rfl rfl ?_
                    clear hS; intro w hS
                    try replace hS := St.nm (M' := [.blk _ _ [_, _, _, _, _], .row _ _ _ _ _, _, .blk _ _ [_, _, _], .row _ _ _ _ _, .vw _ _, .vw _ _]) hS rfl
                    refine hK _ _ ?_; clear hK K
                    refine wl_v (x_assign (tmI rfl rfl)) ?_
                    refine wl_nil ?_
                    refine then_n (hK36 _ _ ?_); clear hK36 K36
                    refine wp_seq_k ?_; intro K37 hK37
                    refine wlit ?_
                    refine wl_v (x_assign (ev_cN 0)) ?_
                    refine wl_nil ?_
                    refine then_n (hK37 _ _ ?_); clear hK37 K37
                    refine wp_seq_k ?_; intro K38 hK38
                    refine wlit ?_
                    refine wl_v (x_move (tmP rfl rfl)) ?_
                    refine wl_v (x_fa 4 Try.underlying42 rfl rfl ts_3 (tmP rfl rfl)) ?_
                    first
                     | refine wl_v (x_load Try.underlying3 rfl (tmP rfl rfl) (cellB hS.ok 0 rfl rfl)) ?_
                     | refine wl_v (x_load Try.underlying3 rfl (tmP rfl rfl) (cellB hS.ok 0 rfl (getm (by omega)))) ?_
                    refine wl_e rfl ?_; intro K hK
                    refine ow_call Try.func9 rfl rfl (evs_cons (tmP rfl rfl) <| evs_cons (tmI rfl rfl) <| evs_nil) (mclear_c gm Ka q ck ls (max most 0) lost (rs.getD k default).i _ _ (hS.enter [1, 2] [] rfl rfl) hq (by omega) (by omega)) ?_
                    rintro e w ⟨K2, q2, k2, cl2, hqe, hclm, rfl, hS2⟩
                    refine ⟨_, rfl, ?_⟩
                    replace hS := hS.leave [1, 2] [0, 3, 4, 5, 6] rfl rfl rfl hS2 rfl -- --lead row,gm
                    clear hS2
                    have hlsN := keepL_strip (rs.getD k default).i hls
                    have hqN := hqe.symm
                    have hmN := hme.symm
                    have hkl : (keepL (rs.getD k default).i ls).length = (keepL (rs.getD k default).i rl).length := by simpa using congrArg List.length hlsN
                    obtain rfl : cl = cl2 := by omega
                    have hroN : ∀ r ∈ keepL (rs.getD k default).i rl, okB w0 r.b ∧ r.b.l.length ≤ 200 := fun r hr => hro r (List.mem_filter.1 hr).1
                    have hsubN : ∀ r ∈ keepL (rs.getD k default).i ls, r ∈ ls := fun r hr => (List.mem_filter.1 hr).1
                    try replace hS := St.nm (M' := [.row _ _ _ _ _, _, .blk _ _ [_, _, _, _, _], .blk _ _ [_, _, _], .row _ _ _ _ _, .vw _ _, .vw _ _]) hS rfl
                    refine hK _ _ ?_; clear hK K
                    refine wl_v (x_move (tmI rfl rfl)) ?_
                    refine wl_v (x_neq (tmI rfl rfl) (tmI rfl rfl)) ?_
                    refine wl_nil ?_
                    refine then_n (hK38 _ _ ?_); clear hK38 K38
                    refine cnd (tm rfl) (fun hc11 => ?_) (fun hc11 => ?_)
                    · exfalso
                      simp at hc11
                    try (exfalso; first | with_reducible exact absurd hc11 Bool.false_ne_true | with_reducible exact absurd hc11.symm Bool.false_ne_true | (simp only [nrm] at hc11; omega) | (simp at hc11; done))
                    all_goals
                     try simp only [nrm] at hc11
                     refine wp_skip ?_
                     exact then_n ⟨_, rfl, (by repeat (first | exact agree_self | exact agree_refl | refine agree_upd rfl ?_ | refine agree_mix rfl ?_)), _, _, _, _, _, _, _, _, _, _, (by first | rfl | go_num | exact congrArg (Value.int _) (by first | omega | (simp; done) | (simp; omega))), (by first | rfl | go_num | exact congrArg (Value.int _) (by first | omega | (simp; done) | (simp; omega))), (by first | exact hSa.leave [1, 2, 3, 4] [5] rfl rfl rfl ((hSb.leave [0, 1, 2, 3] [] rfl rfl rfl (hS.pick [0, 1, 3, 4] rfl rfl) rfl).pick [0, 1, 2, 3] rfl rfl) rfl | exact hSa.leave [1, 2, 3, 4] [5] rfl rfl rfl (hS.pick [0, 1, 3, 4] rfl rfl) rfl), (by exact hqN), (by exact hmN), (by first | exact hcrN | omega), (by exact hlsN), (by omega), (by exact hroN), (by first | exact hawN.step (hS.pick [0, 1, 3, 4] rfl rfl) rfl | exact (haw.step (hS.pick [0, 1, 3, 4] rfl rfl) rfl).sub hsubN)⟩
                 try (exfalso; first | with_reducible exact absurd hc10 Bool.false_ne_true | with_reducible exact absurd hc10.symm Bool.false_ne_true | (simp only [nrm] at hc10; omega) | (simp at hc10; done))
                 all_goals
                  try simp only [nrm] at hc10
                  refine wp_seq_k ?_; intro K39 hK39
                  refine wlit ?_
                  refine wl_v (x_move (tmP rfl rfl)) ?_
                  refine wl_v (x_fa 1 Try.underlying42 rfl rfl ts_28 (tmP rfl rfl)) ?_
                  refine wl_v (x_fa 0 Try.underlying28 rfl rfl ts_3 (tmP rfl rfl)) ?_
                  first
                   | refine wl_v (x_load Try.underlying3 rfl (tmP rfl rfl) (cellB hS.ok 0 rfl rfl)) ?_
                   | refine wl_v (x_load Try.underlying3 rfl (tmP rfl rfl) (cellB hS.ok 0 rfl (getm (by omega)))) ?_
                  refine wl_v (x_fa 1 Try.underlying42 rfl rfl ts_28 (tmP rfl rfl)) ?_
                  refine wl_v (x_fa 1 Try.underlying28 rfl rfl ts_4 (tmP rfl rfl)) ?_
                  first
                   | refine wl_v (x_load Try.underlying4 rfl (tmP rfl rfl) (cellB hS.ok 0 rfl rfl)) ?_
                   | refine wl_v (x_load Try.underlying4 rfl (tmP rfl rfl) (cellB hS.ok 0 rfl (getm (by omega)))) ?_
                  refine wl_v (x_fa 1 Try.underlying42 rfl rfl ts_28 (tmP rfl rfl)) ?_
                  refine wl_v (x_fa 2 Try.underlying28 rfl rfl ts_26 (tmP rfl rfl)) ?_
                  first
                   | refine wl_v (x_load Try.underlying26 rfl (tmP rfl rfl) (cellB hS.ok 0 rfl rfl)) ?_
                   | refine wl_v (x_load Try.underlying26 rfl (tmP rfl rfl) (cellB hS.ok 0 rfl (getm (by omega)))) ?_
                  refine wl_v (x_build (bc_take (tmI rfl rfl) <| bc_take (tmB rfl rfl) <| bc_take (tmS rfl rfl) <| bc_nil) (by kernel_rfl)) ?_
                  refine wl_e rfl ?_; intro K hK
                  refine ow_call Try.func7 rfl rfl (evs_cons (tmP rfl rfl) <| evs_cons (tmA rfl rfl) <| evs_nil) (msend_c gm Ka q ck ls (max most 0) lost (rs.getD k default).x.node (rs.getD k default).x.back (rs.getD k default).x.b.a (rs.getD k default).x.b.l (rs.getD k default).x.b.l.length (rs.getD k default).x.b.c _ _ (hS.enter [1, 2] [5] rfl rfl) rfl (by omega) hq (by omega) (by omega)) ?_
                  rintro e w ⟨K2, q2, k2, ls2, lost2, z, rfl, hS2, hqN, hP, hA⟩
                  refine ⟨_, rfl, ?_⟩
                  have hawN : Aws w (blks [.row (.slice K2 q2 k2) 31 3 q2 (flat GLt.V ls2), .blk gm 52 [.slice K2 q2 k2, .int .i64 (max most 0), .int .i64 ((lost2 : Nat) : Int)], .blk g3_5 40 [.int .i64 (max most 0), .slice R q cr, .int .i64 ((lost : Nat) : Int)], .row (.slice R q cr) 28 3 q (flat GLt.V rl)]) ls2 := hA.use (N := [_, _]) (haw.step (hS.pick [1, 2, 3, 4] rfl rfl) rfl) fun e he => (hS.pick [3, 4] rfl rfl).ok e he
                  have hSb := hS.leave [1, 2] [3, 4, 0, 5, 6] rfl rfl rfl hS2 rfl
                  clear hS2
                  replace hS := hSb.enter [0, 1, 2, 3] [4, 5, 6] rfl rfl --ents row,gm,g3_5,rowr,vt,vx,vw
                  try replace hS := St.nm (M' := [.row _ _ _ _ _, _, .blk _ _ [_, _, _], .row _ _ _ _ _, .vw _ _, .vw _ _, .vw _ _]) hS rfl
                  refine hK _ _ ?_; clear hK K
                  refine wl_v (x_assign (tmI rfl rfl)) ?_
                  refine wl_nil ?_
                  refine then_n (hK39 _ _ ?_); clear hK39 K39
                  refine wlit ?_
                  refine wl_v (x_loadA (cs := [_, _, _]) Try.underlying40 rfl ts_40 (tmP rfl rfl) (rangeB hS.ok 2 rfl rfl)) ?_
                  refine wl_v (x_fa 1 Try.underlying42 rfl rfl ts_28 (tmP rfl rfl)) ?_
                  refine wl_v (x_loadA (cs := [.int .i64 (rs.getD k default).x.node, .bool (rs.getD k default).x.back, .slice (rs.getD k default).x.b.a (rs.getD k default).x.b.l.length (rs.getD k default).x.b.c]) Try.underlying28 rfl (by exact ts_28) (tmP rfl rfl) (rangeW hS.ok 4 rfl rfl)) ?_
                  refine wl_e rfl ?_; intro K hK
                  refine ow_call Try.func16 rfl rfl (evs_cons (tmA rfl rfl) <| evs_cons (tmA rfl rfl) <| evs_nil) (rsend_c (max most 0) lost R q cr rl (rs.getD k default).x _ (viewR hS.ok 3 rfl) hm (by omega) hcr (by omega)) ?_
                  rintro e w ⟨R2, m2, cr2, rl2, lost3, z2, rfl, hmN, hcrN, hRP, hn, hk1⟩
                  refine ⟨_, rfl, ?_⟩
                  replace hS := hS.orr 3 rfl rfl hk1 hn
                  clear hn hk1
                  obtain ⟨hlsN, rfl, rfl, hbN, hb3, hsubr⟩ := send_same hP hRP hls rfl
                  have hroN : ∀ r ∈ rl2, okB w0 r.b ∧ r.b.l.length ≤ 200 := fun r hr => by
                    rcases hsubr r hr with h | rfl
                    · exact hro r h
                    · exact ⟨hok, by omega⟩
                  refine hK _ _ ?_; clear hK K
                  refine wl_v (x_move (tmT rfl rfl)) ?_
                  refine wl_v (x_ext (tmT rfl rfl) rfl) ?_
                  refine wl_v (x_ext (tmT rfl rfl) rfl) ?_
                  refine wl_e rfl ?_; intro K hK
                  refine ow_storeA hS 2 rfl ts_40 (tmP rfl rfl) (tmA rfl rfl) rfl rfl rfl ?_
                  clear hS; intro w hS
                  try replace hS := St.nm (M' := [.row _ _ _ _ _, _, .blk _ _ [_, _, _], .row _ _ _ _ _, .vw _ _, .vw _ _, .vw _ _]) hS rfl
                  refine hK _ _ ?_; clear hK K
                  refine wl_v (x_assign (tmI rfl rfl)) ?_
                  refine wl_nil ?_
                  exact then_n ⟨_, rfl, (by repeat (first | exact agree_self | exact agree_refl | refine agree_upd rfl ?_ | refine agree_mix rfl ?_)), _, _, _, _, _, _, _, _, _, _, (by first | rfl | go_num | exact congrArg (Value.int _) (by first | omega | (simp; done) | (simp; omega))), (by first | rfl | go_num | exact congrArg (Value.int _) (by first | omega | (simp; done) | (simp; omega))), (by first | exact hSa.leave [1, 2, 3, 4] [5] rfl rfl rfl ((hSb.leave [0, 1, 2, 3] [] rfl rfl rfl (hS.pick [0, 1, 2, 3] rfl rfl) rfl).pick [0, 1, 2, 3] rfl rfl) rfl | exact hSa.leave [1, 2, 3, 4] [5] rfl rfl rfl (hS.pick [0, 1, 2, 3] rfl rfl) rfl), (by exact hqN), (by exact hmN), (by first | exact hcrN | omega), (by exact hlsN), (by omega), (by exact hroN), (by first | exact hawN.step (hS.pick [0, 1, 2, 3] rfl rfl) rfl | exact (haw.step (hS.pick [0, 1, 2, 3] rfl rfl) rfl).sub hsubN)⟩
            · clear hS; intro g w hI
              obtain ⟨K2, q2, k2, ls2, lost2, R2, m2, cr2, rl2, z, hs10, hs11, hS, hq2, hm2, hcr2, hls2, hb2, hro2, haw2⟩ := hI
              refine fr_knowQ (d := 10) hs10 ?_; clear hs10
              refine fr_knowQ (d := 11) hs11 ?_; clear hs11
              refine inb_n ?_
              refine then_n (hK16 _ _ ?_); clear hK16 K16
              refine wp_seq_k ?_; intro K40 hK40
              --ents row,gm,g3_5,rowr,vw
              have hSe := hS
              replace hS := hSe.enter [0, 1, 2, 3] [4] rfl rfl
              have hqm : q2 = m2 := by
                have := congrArg List.length hls2
                simp only [List.length_map] at this
                omega
              try replace hS := St.nm (M' := [.row _ _ _ _ _, _, .blk _ _ [_, _, _], .row _ _ _ _ _, .vw _ _]) hS rfl
              refine rg_startk 0 hS mixed_ ?_
              clear hS; intro w hS
              refine rg_take 0 rfl rfl (by kernel_rfl) (by kernel_rfl) (by kernel_rfl) (want_0) (fun w hok => x_move (tmI rfl rfl)) ?_
              refine rg_take 1 rfl rfl (by kernel_rfl) (by kernel_rfl) (by kernel_rfl) (want_0) (fun w hok => x_move (tmI rfl rfl)) ?_
              refine rg_take 2 rfl rfl (by kernel_rfl) (by kernel_rfl) (by kernel_rfl) (want_0) (fun w hok => x_neq (tmI rfl rfl) (tmI rfl rfl)) ?_
              refine rg_take 3 rfl rfl (by kernel_rfl) (by kernel_rfl) (by kernel_rfl) (want_0) (fun w hok => x_move (tmB rfl rfl)) ?_
              refine gs_rg (tm (t := 148) rfl) (fun hg39_3 => ?_) (fun hg39_3 => ?_)
              · have hg39_3' := hg39_3; (try simp only [nrm] at hg39_3'); try (exfalso; first | with_reducible exact absurd hg39_3 Bool.false_ne_true | with_reducible exact absurd hg39_3.symm Bool.false_ne_true | omega | (simp at hg39_3; done))
                all_goals
                 refine rg_skip 4 rfl rfl (by kernel_rfl) (by kernel_rfl) (by kernel_rfl) (want_n rfl rfl rfl rfl (by rw [hg39_3]; rfl)) ?_
                 refine rg_skip 5 rfl rfl (by kernel_rfl) (by kernel_rfl) (by kernel_rfl) (want_n rfl rfl rfl rfl (by rw [hg39_3]; rfl)) ?_
                 refine rg_skip 6 rfl rfl (by kernel_rfl) (by kernel_rfl) (by kernel_rfl) (want_n rfl rfl rfl rfl (by rw [hg39_3]; rfl)) ?_
                 refine rg_skip 7 rfl rfl (by kernel_rfl) (by kernel_rfl) (by kernel_rfl) (want_n rfl rfl rfl rfl (by rw [hg39_3]; rfl)) ?_
                 refine rg_skip 8 rfl rfl (by kernel_rfl) (by kernel_rfl) (by kernel_rfl) (want_n rfl rfl rfl rfl (by rw [hg39_3]; rfl)) ?_
                 refine rg_skip 9 rfl rfl (by kernel_rfl) (by kernel_rfl) (by kernel_rfl) (want_n rfl rfl rfl rfl (by rw [hg39_3]; rfl)) ?_
                 refine rg_take 10 rfl rfl (by kernel_rfl) (by kernel_rfl) (by kernel_rfl) (want_0) (fun w hok => x_pickT (tmB rfl rfl) hg39_3 ev_c) ?_
                 refine rg_take 11 rfl rfl (by kernel_rfl) (by kernel_rfl) (by kernel_rfl) (want_0) (fun w hok => x_move (tmB rfl rfl)) ?_
                 refine rg_skip 12 rfl rfl (by kernel_rfl) (by kernel_rfl) (by kernel_rfl) (want_n rfl rfl rfl rfl rfl) ?_
                 refine rg_skip 13 rfl rfl (by kernel_rfl) (by kernel_rfl) (by kernel_rfl) (want_n rfl rfl rfl rfl rfl) ?_
                 refine rg_skip 14 rfl rfl (by kernel_rfl) (by kernel_rfl) (by kernel_rfl) (want_n rfl rfl rfl rfl rfl) ?_
                 refine rg_skip 15 rfl rfl (by kernel_rfl) (by kernel_rfl) (by kernel_rfl) (want_n rfl rfl rfl rfl rfl) ?_
                 refine rg_skip 16 rfl rfl (by kernel_rfl) (by kernel_rfl) (by kernel_rfl) (want_n rfl rfl rfl rfl rfl) ?_
                 refine rg_take 17 rfl rfl (by kernel_rfl) (by kernel_rfl) (by kernel_rfl) (want_0) (fun w hok => x_pickT (tmB rfl rfl) rfl ev_c) ?_
                 refine rg_done (oks_drop hS 0 rfl) (by kernel_rfl) ?_
                 refine then_n (hK40 _ _ ?_); clear hK40 K40
                 refine cnd_t (tmB rfl rfl) rfl ?_
                 refine wp_seq_k ?_; intro K41 hK41
                 refine wlit ?_
                 refine wl_v (x_assign ev_c) ?_
                 refine wl_nil ?_
                 refine then_n (hK41 _ _ ?_); clear hK41 K41
                 refine wp_ret ?_
                 refine inb_r ?_
                 refine then_r ?_
                 refine then_r ?_
                 refine inb_r ?_
                 refine then_r ?_
                 refine ret1 rfl (.tmp rfl (show _ = Value.bool _ from rfl)) ?_
                 first
                   | exact ⟨rfl, hS.kp.below⟩
                   | exact ⟨rfl, (hSa.kpc (is := [1, 2, 3, 4]) rfl rfl hS).below⟩
              have hg39_3' := hg39_3; (try simp only [nrm] at hg39_3'); try (exfalso; first | with_reducible exact absurd hg39_3 Bool.false_ne_true | with_reducible exact absurd hg39_3.symm Bool.false_ne_true | omega | (simp at hg39_3; done))
              all_goals
               refine rg_take 4 rfl rfl (by kernel_rfl) (by kernel_rfl) (by kernel_rfl) (want_y rfl rfl rfl rfl (by rw [hg39_3]; rfl)) (fun w hok => x_move (tmP rfl rfl)) ?_
               refine rg_take 6 rfl rfl (by kernel_rfl) (by kernel_rfl) (by kernel_rfl) (want_y rfl rfl rfl rfl (by rw [hg39_3]; rfl)) (fun w hok => x_fa 1 Try.underlying40 rfl rfl ts_22 (tmP rfl rfl)) ?_
               first
                | refine rg_take 7 rfl rfl (by kernel_rfl) (by kernel_rfl) (by kernel_rfl) (want_y rfl rfl rfl rfl (by rw [hg39_3]; rfl)) (fun w hok => x_load Try.underlying22 rfl (tmP rfl rfl) (cellB hok 2 rfl rfl)) ?_
                | refine rg_take 7 rfl rfl (by kernel_rfl) (by kernel_rfl) (by kernel_rfl) (want_y rfl rfl rfl rfl (by rw [hg39_3]; rfl)) (fun w hok => x_load Try.underlying22 rfl (tmP rfl rfl) (cellB hok 2 rfl (getm (by omega)))) ?_
               refine rg_take 8 rfl rfl (by kernel_rfl) (by kernel_rfl) (by kernel_rfl) (want_y rfl rfl rfl rfl (by rw [hg39_3]; rfl)) (fun w hok => x_len Try.underlying22 (tmS rfl rfl)) ?_
               refine rg_step 5 rfl (by kernel_rfl) (want_y rfl rfl rfl rfl (by rw [hg39_3]; rfl)) (oks_drop hS 0 rfl) ?_; intro K hK
               refine ow_call Try.func8 rfl rfl (evs_cons (tmP rfl rfl) <| evs_nil) (mlen_c gm K2 q2 k2 _ _ _ (viewB hS.ok 1 rfl)) ?_
               rintro e w ⟨rfl, hk1⟩
               refine ⟨_, rfl, ?_⟩
               replace hS := hS.kept hk1
               clear hk1
               refine hK _ _ ?_; clear hK K
               refine rg_take 9 rfl rfl (by kernel_rfl) (by kernel_rfl) (by kernel_rfl) (want_y rfl rfl rfl rfl (by rw [hg39_3]; rfl)) (fun w hok => x_neq (tmI rfl rfl) (tmI rfl rfl)) ?_
               refine rg_take 10 rfl rfl (by kernel_rfl) (by kernel_rfl) (by kernel_rfl) (want_0) (fun w hok => x_pickF (tmB rfl rfl) hg39_3 (tmB rfl rfl)) ?_
               refine rg_take 11 rfl rfl (by kernel_rfl) (by kernel_rfl) (by kernel_rfl) (want_0) (fun w hok => x_move (tmB rfl rfl)) ?_
               refine gs_rg (tm (t := 156) rfl) (fun hg39_11 => ?_) (fun hg39_11 => ?_)
               · have hg39_11' := hg39_11; (try simp only [nrm] at hg39_11'); try (exfalso; first | with_reducible exact absurd hg39_11 Bool.false_ne_true | with_reducible exact absurd hg39_11.symm Bool.false_ne_true | omega | (simp at hg39_11; done))
                 all_goals
                  refine rg_skip 12 rfl rfl (by kernel_rfl) (by kernel_rfl) (by kernel_rfl) (want_n rfl rfl rfl rfl (by rw [hg39_11]; rfl)) ?_
                  refine rg_skip 13 rfl rfl (by kernel_rfl) (by kernel_rfl) (by kernel_rfl) (want_n rfl rfl rfl rfl (by rw [hg39_11]; rfl)) ?_
                  refine rg_skip 14 rfl rfl (by kernel_rfl) (by kernel_rfl) (by kernel_rfl) (want_n rfl rfl rfl rfl (by rw [hg39_11]; rfl)) ?_
                  refine rg_skip 15 rfl rfl (by kernel_rfl) (by kernel_rfl) (by kernel_rfl) (want_n rfl rfl rfl rfl (by rw [hg39_11]; rfl)) ?_
                  refine rg_skip 16 rfl rfl (by kernel_rfl) (by kernel_rfl) (by kernel_rfl) (want_n rfl rfl rfl rfl (by rw [hg39_11]; rfl)) ?_
                  refine rg_take 17 rfl rfl (by kernel_rfl) (by kernel_rfl) (by kernel_rfl) (want_0) (fun w hok => x_pickT (tmB rfl rfl) hg39_11 ev_c) ?_
                  refine rg_done (oks_drop hS 0 rfl) (by kernel_rfl) ?_
                  refine then_n (hK40 _ _ ?_); clear hK40 K40
                  refine cnd_t (tmB rfl rfl) rfl ?_
                  refine wp_seq_k ?_; intro K42 hK42
                  refine wlit ?_
                  refine wl_v (x_assign ev_c) ?_
                  refine wl_nil ?_
                  refine then_n (hK42 _ _ ?_); clear hK42 K42
                  refine wp_ret ?_
                  refine inb_r ?_
                  refine then_r ?_
                  refine then_r ?_
                  refine inb_r ?_
                  refine then_r ?_
                  refine ret1 rfl (.tmp rfl (show _ = Value.bool _ from rfl)) ?_
                  first
                    | exact ⟨rfl, hS.kp.below⟩
                    | exact ⟨rfl, (hSa.kpc (is := [1, 2, 3, 4]) rfl rfl hS).below⟩
               have hg39_11' := hg39_11; (try simp only [nrm] at hg39_11'); try (exfalso; first | with_reducible exact absurd hg39_11 Bool.false_ne_true | with_reducible exact absurd hg39_11.symm Bool.false_ne_true | omega | (simp at hg39_11; done))
               all_goals
                refine rg_take 12 rfl rfl (by kernel_rfl) (by kernel_rfl) (by kernel_rfl) (want_y rfl rfl rfl rfl (by rw [hg39_11]; rfl)) (fun w hok => x_move (tmP rfl rfl)) ?_
                refine rg_take 14 rfl rfl (by kernel_rfl) (by kernel_rfl) (by kernel_rfl) (want_y rfl rfl rfl rfl (by rw [hg39_11]; rfl)) (fun w hok => x_fa 2 Try.underlying40 rfl rfl ts_3 (tmP rfl rfl)) ?_
                first
                 | refine rg_take 15 rfl rfl (by kernel_rfl) (by kernel_rfl) (by kernel_rfl) (want_y rfl rfl rfl rfl (by rw [hg39_11]; rfl)) (fun w hok => x_load Try.underlying3 rfl (tmP rfl rfl) (cellB hok 2 rfl rfl)) ?_
                 | refine rg_take 15 rfl rfl (by kernel_rfl) (by kernel_rfl) (by kernel_rfl) (want_y rfl rfl rfl rfl (by rw [hg39_11]; rfl)) (fun w hok => x_load Try.underlying3 rfl (tmP rfl rfl) (cellB hok 2 rfl (getm (by omega)))) ?_
                refine rg_step 13 rfl (by kernel_rfl) (want_y rfl rfl rfl rfl (by rw [hg39_11]; rfl)) (oks_drop hS 0 rfl) ?_; intro K hK
                refine ow_call Try.func18 rfl rfl (evs_cons (tmP rfl rfl) <| evs_nil) (mlost_c gm K2 q2 k2 _ _ _ (viewB hS.ok 1 rfl)) ?_
                rintro e w ⟨rfl, hk1⟩
                refine ⟨_, rfl, ?_⟩
                replace hS := hS.kept hk1
                clear hk1
                refine hK _ _ ?_; clear hK K
                refine rg_take 16 rfl rfl (by kernel_rfl) (by kernel_rfl) (by kernel_rfl) (want_y rfl rfl rfl rfl (by rw [hg39_11]; rfl)) (fun w hok => x_neq (tmI rfl rfl) (tmI rfl rfl)) ?_
                refine rg_take 17 rfl rfl (by kernel_rfl) (by kernel_rfl) (by kernel_rfl) (want_0) (fun w hok => x_pickF (tmB rfl rfl) hg39_11 (tmB rfl rfl)) ?_
                refine rg_done (oks_drop hS 0 rfl) (by kernel_rfl) ?_
                refine then_n (hK40 _ _ ?_); clear hK40 K40
                refine cnd (tm rfl) (fun hc12 => ?_) (fun hc12 => ?_)
                · exfalso
                  simp at hc12
                  try omega
                try (exfalso; first | with_reducible exact absurd hc12 Bool.false_ne_true | with_reducible exact absurd hc12.symm Bool.false_ne_true | (simp only [nrm] at hc12; omega) | (simp at hc12; done))
                all_goals
                 try simp only [nrm] at hc12
                 refine wp_skip ?_
                 refine inb_n ?_
                 refine then_n (hK9 _ _ ?_); clear hK9 K9
                 refine wlit ?_
                 refine wl_v (x_move (tmI rfl rfl)) ?_
                 first
                  | refine wl_v (x_addN (tmI rfl rfl) (ev_cN 1) (fit_i64 (by omega))) ?_
                  | refine wl_v (x_addI (tmI rfl rfl) (ev_cN 1) (IntWalk.i64_in _ (by omega))) ?_
                  | refine wl_v (x_add (tmI rfl rfl) (ev_cN 1)) ?_
                 refine wl_v (x_assign (tmI rfl rfl)) ?_
                 refine wl_nil ?_
                 exact then_n ⟨_, _, rfl, (by show _ < _; omega), (by repeat (first | exact agree_self | exact agree_refl | refine agree_upd rfl ?_ | refine agree_mix rfl ?_)), k + 1, K2, q2, k2, ls2, lost2, R2, m2, cr2, rl2, rfl, (by first | rfl | go_num | exact congrArg (Value.int _) (by first | omega | (simp; done) | (simp; omega))), (hSe.leave [0, 1, 2, 3] [4] rfl rfl rfl (hS.pick [0, 1, 2, 3] rfl rfl) rfl), (by omega), (by omega), (by first | rfl | exact hq2), (by first | rfl | exact hm2), (by first | omega | exact hcr2), (by first | rfl | exact hls2), (by first | omega | exact hb2), (by first | exact (fun r hr => absurd hr (List.not_mem_nil)) | exact hro2), (by first | exact Aws.nil | exact haw2.step (hS.pick [0, 1, 2, 3] rfl rfl) rfl)⟩
        try (exfalso; first | with_reducible exact absurd hc1 Bool.false_ne_true | with_reducible exact absurd hc1.symm Bool.false_ne_true | (simp only [nrm] at hc1; omega) | (simp at hc1; done))
        all_goals
         try simp only [nrm] at hc1
         refine wp_exit ?_
         refine then_x ?_; clear hK7 K7
         refine then_x ?_
         refine inb_x ?_
         refine then_n (hK5 _ _ ?_); clear hK5 K5
         refine wp_seq_k ?_; intro K43 hK43
         refine wp_seq_k ?_; intro K44 hK44
         refine wlit ?_
         refine wl_v (x_assign (ev_cN 0)) ?_
         refine wl_nil ?_
         refine then_n (hK44 _ _ ?_); clear hK44 K44
         refine wp_block ?_
         have hsll : ls.length = rl.length := by simpa using congrArg List.length hls
         refine lp [4, 15, 16, 17, 163, 164, 165, 166, 167, 168, 169, 170, 171, 172, 173, 174, 175, 176, 177, 178, 179, 180, 181, 182, 183, 184, 185, 186] (fun mz g w => ∃ (j : Nat), ∃ (K4 : Option Addr), ∃ (q4 k4 : Nat), mz = m - j ∧ g 15 = .int .i64 (j : Int) ∧ St [] w0 [.row (.slice K4 q4 k4) 31 3 q4 (flat GLt.V (ls.drop j)), .blk gm 52 [.slice K4 q4 k4, .int .i64 (max most 0), .int .i64 ((lost : Nat) : Int)], .blk g3_5 40 [.int .i64 (max most 0), .slice R m cr, .int .i64 ((lost : Nat) : Int)], .row (.slice R m cr) 28 3 m (flat GLt.V rl), .vw A0 (flat GMAct.V rs)] w ∧ (j ≤ m) ∧ (q4 + j = m) ∧ (Aws w (blks [.row (.slice K4 q4 k4) 31 3 q4 (flat GLt.V (ls.drop j)), .blk gm 52 [.slice K4 q4 k4, .int .i64 (max most 0), .int .i64 ((lost : Nat) : Int)], .blk g3_5 40 [.int .i64 (max most 0), .slice R m cr, .int .i64 ((lost : Nat) : Int)], .row (.slice R m cr) 28 3 m (flat GLt.V rl)]) (ls.drop j))) ?_ ?_
         · exact ⟨_, 0, _, _, _, rfl, (by first | rfl | go_num | exact congrArg (Value.int _) (by first | omega | (simp; done) | (simp; omega))), hS, (by omega), (by omega), (by first | exact haw | (rw [← hcd]; exact (haw.step (hS.pick [0, 1, 2, 3] rfl rfl) rfl).sub hsb))⟩
         · clear hS; intro mz g w hI
           obtain ⟨j, K4, q4, k4, rfl, hs15, hS, hj, hq4, haw⟩ := hI
           refine fr_know (d := 15) hs15 ?_; clear hs15
           refine wp_seq_k ?_; intro K45 hK45
           refine wp_seq_k ?_; intro K46 hK46
           refine wlit ?_
           refine wl_v (x_move (tmI rfl rfl)) ?_
           refine wl_v (x_fa 1 Try.underlying40 rfl rfl ts_22 (tmP rfl rfl)) ?_
           first
            | refine wl_v (x_load Try.underlying22 rfl (tmP rfl rfl) (cellB hS.ok 2 rfl rfl)) ?_
            | refine wl_v (x_load Try.underlying22 rfl (tmP rfl rfl) (cellB hS.ok 2 rfl (getm (by omega)))) ?_
           refine wl_v (x_len Try.underlying22 (tmS rfl rfl)) ?_
           refine wl_v (x_lss (tmI rfl rfl) (tmI rfl rfl)) ?_
           refine wl_nil ?_
           refine then_n (hK46 _ _ ?_); clear hK46 K46
           refine cnd (tm rfl) (fun hc13 => ?_) (fun hc13 => ?_)
           · try (exfalso; first | with_reducible exact absurd hc13 Bool.false_ne_true | with_reducible exact absurd hc13.symm Bool.false_ne_true | (simp only [nrm] at hc13; omega) | (simp at hc13; done))
             all_goals
              try simp only [nrm] at hc13
              have hjm : j < m := by omega
              obtain ⟨gB, rfl⟩ := row_some (hS.rowOk 3 rfl) (by omega)
              have hcd : cutL (ls.drop j) 0 = ls.drop (j + 1) := by
                unfold cutL
                rw [List.take_zero, List.nil_append, List.drop_drop]
              have hsb : ∀ r ∈ cutL (ls.drop j) 0, r ∈ ls.drop j := cutL_mem
              have hxe : (ls.drop j).getD 0 default = ls.getD j default := by
                rw [List.getD_eq_getElem?_getD, List.getD_eq_getElem?_getD, List.getElem?_drop, Nat.add_zero]
              have hsll2 : ls.length = rl.length := by simpa using congrArg List.length hls
              have hxm : (ls.drop j).getD 0 default ∈ ls.drop j := by
                rw [List.getD_eq_getElem?_getD, List.getElem?_eq_getElem (by rw [List.length_drop]; omega)]
                exact List.getElem_mem _
              have hst := strip_get hls (k := j) (by omega)
              rw [← hxe] at hst
              have hsame : ((ls.drop j).getD 0 default).node = (rl.getD j default).node ∧ ((ls.drop j).getD 0 default).back = (rl.getD j default).back ∧ ((ls.drop j).getD 0 default).b.l = (rl.getD j default).b.l := by
                simpa [strip] using hst
              have hym : rl.getD j default ∈ rl := by
                rw [List.getD_eq_getElem?_getD, List.getElem?_eq_getElem (by omega)]
                exact List.getElem_mem _
              obtain ⟨⟨-, -, hyb, hyv⟩, -⟩ := hro _ hym
              refine wp_skip ?_
              refine then_n (hK45 _ _ ?_); clear hK45 K45
              refine wp_seq_k ?_; intro K47 hK47
              refine wp_block ?_
              refine wp_seq_k ?_; intro K48 hK48
              --ents row,gm,g3_5,rowr,vw
              have hSd := hS
              replace hS := hSd.enter [0, 1, 2, 3] [4] rfl rfl
              have hdr : (ls.drop j).length = q4 := by rw [List.length_drop]; omega
              have hT := fun F w h => mtake_in gm K4 q4 k4 (ls.drop j) (max most 0) ((lost : Nat) : Int) 0 F w h hdr (by omega) (by omega)
              try replace hS := St.nm (M' := [.row _ _ _ _ _, _, .blk _ _ [_, _, _], .row _ _ _ _ _, .vw _ _]) hS rfl
              refine wlit ?_
              refine wl_v (x_move (tmP rfl rfl)) ?_
              refine wl_e rfl ?_; intro K hK
              refine ow_call Try.func10 rfl rfl (evs_cons (tmP rfl rfl) <| evs_cons (ev_cN 0) <| evs_nil) (hT _ _ (hS.enter [0, 1] [] rfl rfl)) ?_
              rintro e w ⟨K5, k5, rfl, hS2⟩
              refine ⟨_, rfl, ?_⟩
              replace hS := hS.leave [0, 1] [2, 3, 4] rfl rfl rfl hS2 rfl --ents row,gm,g3_5,rowr,vw
              clear hS2
              try replace hS := St.nm (M' := [.row _ _ _ _ _, _, .blk _ _ [_, _, _], .row _ _ _ _ _, .vw _ _]) hS rfl
              refine hK _ _ ?_; clear hK K
              refine wl_v (x_move (tmT rfl rfl)) ?_
              refine wl_v (x_ext (tmT rfl rfl) rfl) ?_
              refine wl_v (x_ext (tmT rfl rfl) rfl) ?_
              refine wl_e rfl ?_; intro K hK
              refine ow_alloc hS tz_31 rfl ?_
              clear hS; intro g44_5 w hg44_5 hS
              refine hK _ _ ?_; clear hK K
              refine wl_e rfl ?_; intro K hK
              refine ow_storeA hS 0 rfl ts_31 (tmP rfl rfl) (tmA rfl rfl) rfl rfl rfl ?_
              clear hS; intro w hS
              try replace hS := St.nm (M' := [.blk _ _ [_, _, _], .row _ _ _ _ _, _, .blk _ _ [_, _, _], .row _ _ _ _ _, .vw _ _]) hS rfl
              refine hK _ _ ?_; clear hK K
              refine wl_v (x_assign (tmI rfl rfl)) ?_
              refine wl_nil ?_
              refine then_n (hK48 _ _ ?_); clear hK48 K48
              refine wp_seq_k ?_; intro K49 hK49
              refine rg_startk 0 hS mixed_ ?_
              clear hS; intro w hS
              refine rg_take 0 rfl rfl (by kernel_rfl) (by kernel_rfl) (by kernel_rfl) (want_0) (fun w hok => x_move (tmI rfl rfl)) ?_
              refine rg_take 1 rfl rfl (by kernel_rfl) (by kernel_rfl) (by kernel_rfl) (want_0) (fun w hok => x_neq (tmI rfl rfl) (ev_cN 0)) ?_
              refine rg_take 2 rfl rfl (by kernel_rfl) (by kernel_rfl) (by kernel_rfl) (want_0) (fun w hok => x_move (tmB rfl rfl)) ?_
              refine gs_rg (tm (t := 177) rfl) (fun hg45_2 => ?_) (fun hg45_2 => ?_)
              · exfalso
                first
                  | (simp only [nrm] at hg45_2; omega)
                  | (simp at hg45_2)
              have hg45_2' := hg45_2; (try simp only [nrm] at hg45_2'); try (exfalso; first | with_reducible exact absurd hg45_2 Bool.false_ne_true | with_reducible exact absurd hg45_2.symm Bool.false_ne_true | omega | (simp at hg45_2; done))
              all_goals
               refine rg_take 3 rfl rfl (by kernel_rfl) (by kernel_rfl) (by kernel_rfl) (want_y rfl rfl rfl rfl (by rw [hg45_2]; rfl)) (fun w hok => x_loadA (cs := [_, _, _]) Try.underlying31 rfl ts_31 (tmP rfl rfl) (rangeB hok 0 rfl rfl)) ?_
               refine rg_take 4 rfl rfl (by kernel_rfl) (by kernel_rfl) (by kernel_rfl) (want_y rfl rfl rfl rfl (by rw [hg45_2]; rfl)) (fun w hok => x_fa 1 Try.underlying40 rfl rfl ts_22 (tmP rfl rfl)) ?_
               first
                | refine rg_take 5 rfl rfl (by kernel_rfl) (by kernel_rfl) (by kernel_rfl) (want_y rfl rfl rfl rfl (by rw [hg45_2]; rfl)) (fun w hok => x_load Try.underlying22 rfl (tmP rfl rfl) (cellB hok 3 rfl rfl)) ?_
                | refine rg_take 5 rfl rfl (by kernel_rfl) (by kernel_rfl) (by kernel_rfl) (want_y rfl rfl rfl rfl (by rw [hg45_2]; rfl)) (fun w hok => x_load Try.underlying22 rfl (tmP rfl rfl) (cellB hok 3 rfl (getm (by omega)))) ?_
               refine rg_take 6 rfl rfl (by kernel_rfl) (by kernel_rfl) (by kernel_rfl) (want_y rfl rfl rfl rfl (by rw [hg45_2]; rfl)) (fun w hok => x_move (tmI rfl rfl)) ?_
               refine rg_take 7 rfl rfl (by kernel_rfl) (by kernel_rfl) (by kernel_rfl) (want_y rfl rfl rfl rfl (by rw [hg45_2]; rfl)) (fun w hok => x_ixs Try.underlying22 ts_28 (tmS rfl rfl) (tmI rfl rfl) (by omega)) ?_
               first
                | refine rg_take 8 rfl rfl (by kernel_rfl) (by kernel_rfl) (by kernel_rfl) (want_y rfl rfl rfl rfl (by rw [hg45_2]; rfl)) (fun w hok => x_loadA (cs := [_, _, _]) Try.underlying28 rfl ts_28 (tmP rfl rfl) (rangeB hok 2 rfl rfl)) ?_
                | refine rg_take 8 rfl rfl (by kernel_rfl) (by kernel_rfl) (by kernel_rfl) (want_y rfl rfl rfl rfl (by rw [hg45_2]; rfl)) (fun w hok => x_loadA Try.underlying28 rfl (by exact ts_28) (tmP rfl rfl) (rangeRs hok 1 rfl (fun _ => rfl) (by omega))) ?_
                | refine rg_take 8 rfl rfl (by kernel_rfl) (by kernel_rfl) (by kernel_rfl) (want_y rfl rfl rfl rfl (by rw [hg45_2]; rfl)) (fun w hok => x_loadA Try.underlying28 rfl (by exact ts_28) (tmP rfl rfl) (rangeRs hok 4 rfl (fun _ => rfl) (by omega))) ?_
                | refine rg_take 8 rfl rfl (by kernel_rfl) (by kernel_rfl) (by kernel_rfl) (want_y rfl rfl rfl rfl (by rw [hg45_2]; rfl)) (fun w hok => x_loadA Try.underlying28 rfl (by exact ts_28) (tmP rfl rfl) (rangeVs hok 5 rfl (fun _ => rfl) (by omega))) ?_
               refine rg_step 9 rfl (by kernel_rfl) (want_y rfl rfl rfl rfl (by rw [hg45_2]; rfl)) (oks_drop hS 0 rfl) ?_; intro K hK
               refine ow_call Try.func11 rfl rfl (evs_cons (tmA rfl rfl) <| evs_cons (tmA rfl rfl) <| evs_nil) (same_c ((ls.drop j).getD 0 default) (rl.getD j default) _ hsame (haw.step (hS.pick [1, 2, 3, 4] rfl rfl) rfl _ hxm).1 (view_on hyv (hSd.kpc (is := [0, 1, 2, 3]) rfl rfl hS)) hyb) ?_
               rintro e w ⟨rfl, hk1⟩
               refine ⟨_, rfl, ?_⟩
               replace hS := hS.kept hk1
               clear hk1
               refine hK _ _ ?_; clear hK K
               refine rg_take 10 rfl rfl (by kernel_rfl) (by kernel_rfl) (by kernel_rfl) (want_y rfl rfl rfl rfl (by rw [hg45_2]; rfl)) (fun w hok => x_not (tmB rfl rfl)) ?_
               refine rg_take 11 rfl rfl (by kernel_rfl) (by kernel_rfl) (by kernel_rfl) (want_0) (fun w hok => x_pickF (tmB rfl rfl) hg45_2 (tmB rfl rfl)) ?_
               refine rg_done (oks_drop hS 0 rfl) (by kernel_rfl) ?_
               refine then_n (hK49 _ _ ?_); clear hK49 K49
               refine cnd (tm rfl) (fun hc14 => ?_) (fun hc14 => ?_)
               · exfalso
                 simp at hc14
               try (exfalso; first | with_reducible exact absurd hc14 Bool.false_ne_true | with_reducible exact absurd hc14.symm Bool.false_ne_true | (simp only [nrm] at hc14; omega) | (simp at hc14; done))
               all_goals
                try simp only [nrm] at hc14
                refine wp_skip ?_
                refine inb_n ?_
                refine then_n (hK47 _ _ ?_); clear hK47 K47
                refine wlit ?_
                refine wl_v (x_move (tmI rfl rfl)) ?_
                first
                 | refine wl_v (x_addN (tmI rfl rfl) (ev_cN 1) (fit_i64 (by omega))) ?_
                 | refine wl_v (x_addI (tmI rfl rfl) (ev_cN 1) (IntWalk.i64_in _ (by omega))) ?_
                 | refine wl_v (x_add (tmI rfl rfl) (ev_cN 1)) ?_
                refine wl_v (x_assign (tmI rfl rfl)) ?_
                refine wl_nil ?_
                exact then_n ⟨_, _, rfl, (by show _ < _; omega), (by repeat (first | exact agree_self | exact agree_refl | refine agree_upd rfl ?_ | refine agree_mix rfl ?_)), j + 1, _, _, _, rfl, (by first | rfl | go_num | exact congrArg (Value.int _) (by first | omega | (simp; done) | (simp; omega))), (by rw [← hcd]; exact hSd.leave [0, 1, 2, 3] [4] rfl rfl rfl (hS.pick [1, 2, 3, 4] rfl rfl) rfl), (by omega), (by omega), (by first | exact haw | (rw [← hcd]; exact (haw.step (hS.pick [1, 2, 3, 4] rfl rfl) rfl).sub hsb))⟩
           try (exfalso; first | with_reducible exact absurd hc13 Bool.false_ne_true | with_reducible exact absurd hc13.symm Bool.false_ne_true | (simp only [nrm] at hc13; omega) | (simp at hc13; done))
           all_goals
            try simp only [nrm] at hc13
            refine wp_exit ?_
            refine then_x ?_; clear hK45 K45
            refine then_x ?_
            refine inb_x ?_
            refine then_n (hK43 _ _ ?_); clear hK43 K43
            refine wp_seq_k ?_; intro K50 hK50
            refine wlit ?_
            refine wl_v (x_assign ev_c) ?_
            refine wl_nil ?_
            refine then_n (hK50 _ _ ?_); clear hK50 K50
            refine wp_seq_k ?_; intro K51 hK51
            refine wlit ?_
            refine wl_v (x_move (tmP rfl rfl)) ?_
            refine wl_e rfl ?_; intro K hK
            refine ow_call Try.func10 rfl rfl (evs_cons (tmP rfl rfl) <| evs_cons (ev_cN 0) <| evs_nil) (ntake_c _) ?_
            rintro e w ⟨rfl, hk1⟩
            refine ⟨_, rfl, ?_⟩
            replace hS := hS.kept hk1
            clear hk1
            refine hK _ _ ?_; clear hK K
            refine wl_v (x_move (tmT rfl rfl)) ?_
            refine wl_v (x_ext (tmT rfl rfl) rfl) ?_
            refine wl_v (x_ext (tmT rfl rfl) rfl) ?_
            refine wl_e rfl ?_; intro K hK
            refine ow_alloc hS tz_31 rfl ?_
            clear hS; intro g48_5 w hg48_5 hS
            refine hK _ _ ?_; clear hK K
            refine wl_e rfl ?_; intro K hK
            refine ow_storeA hS 0 rfl ts_31 (tmP rfl rfl) (tmA rfl rfl) rfl rfl rfl ?_
            clear hS; intro w hS
            try replace hS := St.nm (M' := [.blk _ _ [_, _, _], .row _ _ _ _ _, _, .blk _ _ [_, _, _], .row _ _ _ _ _, .vw _ _]) hS rfl
            refine hK _ _ ?_; clear hK K
            refine wl_v (x_assign (tmI rfl rfl)) ?_
            refine wl_nil ?_
            refine then_n (hK51 _ _ ?_); clear hK51 K51
            refine wp_seq_k ?_; intro K52 hK52
            refine wlit ?_
            refine wl_v (x_move (tmI rfl rfl)) ?_
            refine wl_v (x_eql (tmI rfl rfl) (ev_cN 6)) ?_
            refine wl_v (x_move (tmB rfl rfl)) ?_
            refine gs_wl (tm (t := 194) rfl) (fun hg49_2 => ?_) (fun hg49_2 => ?_)
            · have hg49_2' := hg49_2; (try simp only [nrm] at hg49_2'); try (exfalso; first | with_reducible exact absurd hg49_2 Bool.false_ne_true | with_reducible exact absurd hg49_2.symm Bool.false_ne_true | omega | (simp at hg49_2; done))
              all_goals
               refine wl_gv (want_y rfl rfl rfl rfl (by rw [hg49_2]; rfl)) (x_move (tmP rfl rfl)) ?_
               refine wl_gv (want_y rfl rfl rfl rfl (by rw [hg49_2]; rfl)) (x_build (bc_skip (.int .i64 0) <| bc_skip (.bool false) <| bc_skip (.slice none 0 0) <| bc_nil) (by kernel_rfl)) ?_
               refine wl_g (want_y rfl rfl rfl rfl (by rw [hg49_2]; rfl)) ?_; intro K hK
               refine ow_call Try.func7 rfl rfl (evs_cons (tmP rfl rfl) <| evs_cons (tmA rfl rfl) <| evs_nil) (nsend_c _) ?_
               rintro e w ⟨rfl, hk1⟩
               refine ⟨_, rfl, ?_⟩
               replace hS := hS.kept hk1
               clear hk1
               refine hK _ _ ?_; clear hK K
               refine wl_gv (want_y rfl rfl rfl rfl (by rw [hg49_2]; rfl)) (x_eql (tmI rfl rfl) (ev_cN 3)) ?_
               refine wl_v (x_pickT (tmB rfl rfl) hg49_2 (tmB rfl rfl)) ?_
               refine wl_v (x_move (tmB rfl rfl)) ?_
               refine gs_wl (tm (t := 200) rfl) (fun hg49_8 => ?_) (fun hg49_8 => ?_)
               · have hg49_8' := hg49_8; (try simp only [nrm] at hg49_8'); try (exfalso; first | with_reducible exact absurd hg49_8 Bool.false_ne_true | with_reducible exact absurd hg49_8.symm Bool.false_ne_true | omega | (simp at hg49_8; done))
                 all_goals
                  refine wl_gv (want_y rfl rfl rfl rfl (by rw [hg49_8]; rfl)) (x_move (tmP rfl rfl)) ?_
                  refine wl_g (want_y rfl rfl rfl rfl (by rw [hg49_8]; rfl)) ?_; intro K hK
                  refine ow_call Try.func14 rfl rfl (evs_cons (tmP rfl rfl) <| evs_cons (ev_cN 0) <| evs_nil) (ndrop_c _) ?_
                  rintro e w ⟨rfl, hk1⟩
                  refine ⟨_, rfl, ?_⟩
                  replace hS := hS.kept hk1
                  clear hk1
                  refine hK _ _ ?_; clear hK K
                  refine wl_gv (want_y rfl rfl rfl rfl (by rw [hg49_8]; rfl)) (x_move (tmI rfl rfl)) ?_
                  refine wl_gv (want_y rfl rfl rfl rfl (by rw [hg49_8]; rfl)) (x_eql (tmI rfl rfl) (tmI rfl rfl)) ?_
                  refine wl_v (x_pickT (tmB rfl rfl) hg49_8 (tmB rfl rfl)) ?_
                  refine wl_v (x_move (tmB rfl rfl)) ?_
                  refine gs_wl (tm (t := 206) rfl) (fun hg49_14 => ?_) (fun hg49_14 => ?_)
                  · have hg49_14' := hg49_14; (try simp only [nrm] at hg49_14'); try (exfalso; first | with_reducible exact absurd hg49_14 Bool.false_ne_true | with_reducible exact absurd hg49_14.symm Bool.false_ne_true | omega | (simp at hg49_14; done))
                    all_goals
                     refine wl_gv (want_y rfl rfl rfl rfl (by rw [hg49_14]; rfl)) (x_move (tmP rfl rfl)) ?_
                     refine wl_g (want_y rfl rfl rfl rfl (by rw [hg49_14]; rfl)) ?_; intro K hK
                     refine ow_call Try.func15 rfl rfl (evs_cons (tmP rfl rfl) <| evs_cons (ev_cN 0) <| evs_nil) (ntwice_c _) ?_
                     rintro e w ⟨rfl, hk1⟩
                     refine ⟨_, rfl, ?_⟩
                     replace hS := hS.kept hk1
                     clear hk1
                     refine hK _ _ ?_; clear hK K
                     refine wl_gv (want_y rfl rfl rfl rfl (by rw [hg49_14]; rfl)) (x_move (tmI rfl rfl)) ?_
                     refine wl_gv (want_y rfl rfl rfl rfl (by rw [hg49_14]; rfl)) (x_eql (tmI rfl rfl) (tmI rfl rfl)) ?_
                     refine wl_v (x_pickT (tmB rfl rfl) hg49_14 (tmB rfl rfl)) ?_
                     refine wl_v (x_move (tmB rfl rfl)) ?_
                     refine gs_wl (tm (t := 212) rfl) (fun hg49_20 => ?_) (fun hg49_20 => ?_)
                     · have hg49_20' := hg49_20; (try simp only [nrm] at hg49_20'); try (exfalso; first | with_reducible exact absurd hg49_20 Bool.false_ne_true | with_reducible exact absurd hg49_20.symm Bool.false_ne_true | omega | (simp at hg49_20; done))
                       all_goals
                        refine wl_gv (want_y rfl rfl rfl rfl (by rw [hg49_20]; rfl)) (x_move (tmP rfl rfl)) ?_
                        refine wl_g (want_y rfl rfl rfl rfl (by rw [hg49_20]; rfl)) ?_; intro K hK
                        refine ow_call Try.func9 rfl rfl (evs_cons (tmP rfl rfl) <| evs_cons (ev_cN 0) <| evs_nil) (nclear_c _) ?_
                        rintro e w ⟨rfl, hk1⟩
                        refine ⟨_, rfl, ?_⟩
                        replace hS := hS.kept hk1
                        clear hk1
                        refine hK _ _ ?_; clear hK K
                        refine wl_gv (want_y rfl rfl rfl rfl (by rw [hg49_20]; rfl)) (x_move (tmP rfl rfl)) ?_
                        refine wl_g (want_y rfl rfl rfl rfl (by rw [hg49_20]; rfl)) ?_; intro K hK
                        refine ow_call Try.func8 rfl rfl (evs_cons (tmP rfl rfl) <| evs_nil) (nlen_c _) ?_
                        rintro e w ⟨rfl, hk1⟩
                        refine ⟨_, rfl, ?_⟩
                        replace hS := hS.kept hk1
                        clear hk1
                        refine hK _ _ ?_; clear hK K
                        first
                         | refine wl_gv (want_y rfl rfl rfl rfl (by rw [hg49_20]; rfl)) (x_addN (tmI rfl rfl) (tmI rfl rfl) (fit_i64 (by omega))) ?_
                         | refine wl_gv (want_y rfl rfl rfl rfl (by rw [hg49_20]; rfl)) (x_addI (tmI rfl rfl) (tmI rfl rfl) (IntWalk.i64_in _ (by omega))) ?_
                         | refine wl_gv (want_y rfl rfl rfl rfl (by rw [hg49_20]; rfl)) (x_add (tmI rfl rfl) (tmI rfl rfl)) ?_
                        refine wl_gv (want_y rfl rfl rfl rfl (by rw [hg49_20]; rfl)) (x_move (tmP rfl rfl)) ?_
                        refine wl_g (want_y rfl rfl rfl rfl (by rw [hg49_20]; rfl)) ?_; intro K hK
                        refine ow_call Try.func18 rfl rfl (evs_cons (tmP rfl rfl) <| evs_nil) (nlost_c _) ?_
                        rintro e w ⟨rfl, hk1⟩
                        refine ⟨_, rfl, ?_⟩
                        replace hS := hS.kept hk1
                        clear hk1
                        refine hK _ _ ?_; clear hK K
                        first
                         | refine wl_gv (want_y rfl rfl rfl rfl (by rw [hg49_20]; rfl)) (x_addN (tmI rfl rfl) (tmI rfl rfl) (fit_i64 (by omega))) ?_
                         | refine wl_gv (want_y rfl rfl rfl rfl (by rw [hg49_20]; rfl)) (x_addI (tmI rfl rfl) (tmI rfl rfl) (IntWalk.i64_in _ (by omega))) ?_
                         | refine wl_gv (want_y rfl rfl rfl rfl (by rw [hg49_20]; rfl)) (x_add (tmI rfl rfl) (tmI rfl rfl)) ?_
                        refine wl_gv (want_y rfl rfl rfl rfl (by rw [hg49_20]; rfl)) (x_eql (tmI rfl rfl) (ev_cN 0)) ?_
                        refine wl_v (x_pickT (tmB rfl rfl) hg49_20 (tmB rfl rfl)) ?_
                        refine wl_v (x_move (tmB rfl rfl)) ?_
                        refine gs_wl (tm (t := 223) rfl) (fun hg49_31 => ?_) (fun hg49_31 => ?_)
                        · have hg49_31' := hg49_31; (try simp only [nrm] at hg49_31'); try (exfalso; first | with_reducible exact absurd hg49_31 Bool.false_ne_true | with_reducible exact absurd hg49_31.symm Bool.false_ne_true | omega | (simp at hg49_31; done))
                          all_goals
                           refine wl_g (want_y rfl rfl rfl rfl (by rw [hg49_31]; rfl)) ?_; intro K hK
                           refine ow_call Try.func5 rfl rfl (evs_nil) (law34_awake_c _) ?_
                           rintro e w ⟨rfl, hk1⟩
                           refine ⟨_, rfl, ?_⟩
                           replace hS := hS.kept hk1
                           clear hk1
                           refine hK _ _ ?_; clear hK K
                           refine wl_v (x_pickT (tmB rfl rfl) hg49_31 (tmB rfl rfl)) ?_
                           refine wl_v (x_assign (tmB rfl rfl)) ?_
                           refine wl_nil ?_
                           refine then_n (hK52 _ _ ?_); clear hK52 K52
                           refine wp_ret ?_
                           refine ret1 rfl (.tmp rfl (show _ = Value.bool _ from rfl)) ?_
                           first
                             | exact ⟨rfl, hS.kp.below⟩
                             | exact ⟨rfl, (hSa.kpc (is := [1, 2, 3, 4]) rfl rfl hS).below⟩
                        have hg49_31' := hg49_31; (try simp only [nrm] at hg49_31'); try (exfalso; first | with_reducible exact absurd hg49_31 Bool.false_ne_true | with_reducible exact absurd hg49_31.symm Bool.false_ne_true | omega | (simp at hg49_31; done))
                        all_goals
                         refine wl_s rfl (want_n rfl rfl rfl rfl (by rw [hg49_31]; rfl)) ?_
                         refine wl_v (x_pickF (tmB rfl rfl) hg49_31 ev_c) ?_
                         refine wl_v (x_assign (tmB rfl rfl)) ?_
                         refine wl_nil ?_
                         refine then_n (hK52 _ _ ?_); clear hK52 K52
                         refine wp_ret ?_
                         refine ret1 rfl (.tmp rfl (show _ = Value.bool _ from rfl)) ?_
                         first
                           | exact ⟨rfl, hS.kp.below⟩
                           | exact ⟨rfl, (hSa.kpc (is := [1, 2, 3, 4]) rfl rfl hS).below⟩
                     have hg49_20' := hg49_20; (try simp only [nrm] at hg49_20'); try (exfalso; first | with_reducible exact absurd hg49_20 Bool.false_ne_true | with_reducible exact absurd hg49_20.symm Bool.false_ne_true | omega | (simp at hg49_20; done))
                     all_goals
                      refine wl_s rfl (want_n rfl rfl rfl rfl (by rw [hg49_20]; rfl)) ?_
                      refine wl_s rfl (want_n rfl rfl rfl rfl (by rw [hg49_20]; rfl)) ?_
                      refine wl_s rfl (want_n rfl rfl rfl rfl (by rw [hg49_20]; rfl)) ?_
                      refine wl_s rfl (want_n rfl rfl rfl rfl (by rw [hg49_20]; rfl)) ?_
                      refine wl_s rfl (want_n rfl rfl rfl rfl (by rw [hg49_20]; rfl)) ?_
                      refine wl_s rfl (want_n rfl rfl rfl rfl (by rw [hg49_20]; rfl)) ?_
                      refine wl_s rfl (want_n rfl rfl rfl rfl (by rw [hg49_20]; rfl)) ?_
                      refine wl_s rfl (want_n rfl rfl rfl rfl (by rw [hg49_20]; rfl)) ?_
                      refine wl_s rfl (want_n rfl rfl rfl rfl (by rw [hg49_20]; rfl)) ?_
                      refine wl_v (x_pickF (tmB rfl rfl) hg49_20 ev_c) ?_
                      refine wl_v (x_move (tmB rfl rfl)) ?_
                      refine wl_s rfl (want_n rfl rfl rfl rfl rfl) ?_
                      refine wl_v (x_pickF (tmB rfl rfl) rfl ev_c) ?_
                      refine wl_v (x_assign (tmB rfl rfl)) ?_
                      refine wl_nil ?_
                      refine then_n (hK52 _ _ ?_); clear hK52 K52
                      refine wp_ret ?_
                      refine ret1 rfl (.tmp rfl (show _ = Value.bool _ from rfl)) ?_
                      first
                        | exact ⟨rfl, hS.kp.below⟩
                        | exact ⟨rfl, (hSa.kpc (is := [1, 2, 3, 4]) rfl rfl hS).below⟩
                  have hg49_14' := hg49_14; (try simp only [nrm] at hg49_14'); try (exfalso; first | with_reducible exact absurd hg49_14 Bool.false_ne_true | with_reducible exact absurd hg49_14.symm Bool.false_ne_true | omega | (simp at hg49_14; done))
                  all_goals
                   refine wl_s rfl (want_n rfl rfl rfl rfl (by rw [hg49_14]; rfl)) ?_
                   refine wl_s rfl (want_n rfl rfl rfl rfl (by rw [hg49_14]; rfl)) ?_
                   refine wl_s rfl (want_n rfl rfl rfl rfl (by rw [hg49_14]; rfl)) ?_
                   refine wl_s rfl (want_n rfl rfl rfl rfl (by rw [hg49_14]; rfl)) ?_
                   refine wl_v (x_pickF (tmB rfl rfl) hg49_14 ev_c) ?_
                   refine wl_v (x_move (tmB rfl rfl)) ?_
                   refine wl_s rfl (want_n rfl rfl rfl rfl rfl) ?_
                   refine wl_s rfl (want_n rfl rfl rfl rfl rfl) ?_
                   refine wl_s rfl (want_n rfl rfl rfl rfl rfl) ?_
                   refine wl_s rfl (want_n rfl rfl rfl rfl rfl) ?_
                   refine wl_s rfl (want_n rfl rfl rfl rfl rfl) ?_
                   refine wl_s rfl (want_n rfl rfl rfl rfl rfl) ?_
                   refine wl_s rfl (want_n rfl rfl rfl rfl rfl) ?_
                   refine wl_s rfl (want_n rfl rfl rfl rfl rfl) ?_
                   refine wl_s rfl (want_n rfl rfl rfl rfl rfl) ?_
                   refine wl_v (x_pickF (tmB rfl rfl) rfl ev_c) ?_
                   refine wl_v (x_move (tmB rfl rfl)) ?_
                   refine wl_s rfl (want_n rfl rfl rfl rfl rfl) ?_
                   refine wl_v (x_pickF (tmB rfl rfl) rfl ev_c) ?_
                   refine wl_v (x_assign (tmB rfl rfl)) ?_
                   refine wl_nil ?_
                   refine then_n (hK52 _ _ ?_); clear hK52 K52
                   refine wp_ret ?_
                   refine ret1 rfl (.tmp rfl (show _ = Value.bool _ from rfl)) ?_
                   first
                     | exact ⟨rfl, hS.kp.below⟩
                     | exact ⟨rfl, (hSa.kpc (is := [1, 2, 3, 4]) rfl rfl hS).below⟩
               have hg49_8' := hg49_8; (try simp only [nrm] at hg49_8'); try (exfalso; first | with_reducible exact absurd hg49_8 Bool.false_ne_true | with_reducible exact absurd hg49_8.symm Bool.false_ne_true | omega | (simp at hg49_8; done))
               all_goals
                refine wl_s rfl (want_n rfl rfl rfl rfl (by rw [hg49_8]; rfl)) ?_
                refine wl_s rfl (want_n rfl rfl rfl rfl (by rw [hg49_8]; rfl)) ?_
                refine wl_s rfl (want_n rfl rfl rfl rfl (by rw [hg49_8]; rfl)) ?_
                refine wl_s rfl (want_n rfl rfl rfl rfl (by rw [hg49_8]; rfl)) ?_
                refine wl_v (x_pickF (tmB rfl rfl) hg49_8 ev_c) ?_
                refine wl_v (x_move (tmB rfl rfl)) ?_
                refine wl_s rfl (want_n rfl rfl rfl rfl rfl) ?_
                refine wl_s rfl (want_n rfl rfl rfl rfl rfl) ?_
                refine wl_s rfl (want_n rfl rfl rfl rfl rfl) ?_
                refine wl_s rfl (want_n rfl rfl rfl rfl rfl) ?_
                refine wl_v (x_pickF (tmB rfl rfl) rfl ev_c) ?_
                refine wl_v (x_move (tmB rfl rfl)) ?_
                refine wl_s rfl (want_n rfl rfl rfl rfl rfl) ?_
                refine wl_s rfl (want_n rfl rfl rfl rfl rfl) ?_
                refine wl_s rfl (want_n rfl rfl rfl rfl rfl) ?_
                refine wl_s rfl (want_n rfl rfl rfl rfl rfl) ?_
                refine wl_s rfl (want_n rfl rfl rfl rfl rfl) ?_
                refine wl_s rfl (want_n rfl rfl rfl rfl rfl) ?_
                refine wl_s rfl (want_n rfl rfl rfl rfl rfl) ?_
                refine wl_s rfl (want_n rfl rfl rfl rfl rfl) ?_
                refine wl_s rfl (want_n rfl rfl rfl rfl rfl) ?_
                refine wl_v (x_pickF (tmB rfl rfl) rfl ev_c) ?_
                refine wl_v (x_move (tmB rfl rfl)) ?_
                refine wl_s rfl (want_n rfl rfl rfl rfl rfl) ?_
                refine wl_v (x_pickF (tmB rfl rfl) rfl ev_c) ?_
                refine wl_v (x_assign (tmB rfl rfl)) ?_
                refine wl_nil ?_
                refine then_n (hK52 _ _ ?_); clear hK52 K52
                refine wp_ret ?_
                refine ret1 rfl (.tmp rfl (show _ = Value.bool _ from rfl)) ?_
                first
                  | exact ⟨rfl, hS.kp.below⟩
                  | exact ⟨rfl, (hSa.kpc (is := [1, 2, 3, 4]) rfl rfl hS).below⟩
            have hg49_2' := hg49_2; (try simp only [nrm] at hg49_2'); try (exfalso; first | with_reducible exact absurd hg49_2 Bool.false_ne_true | with_reducible exact absurd hg49_2.symm Bool.false_ne_true | omega | (simp at hg49_2; done))
            all_goals
             refine wl_s rfl (want_n rfl rfl rfl rfl (by rw [hg49_2]; rfl)) ?_
             refine wl_s rfl (want_n rfl rfl rfl rfl (by rw [hg49_2]; rfl)) ?_
             refine wl_s rfl (want_n rfl rfl rfl rfl (by rw [hg49_2]; rfl)) ?_
             refine wl_s rfl (want_n rfl rfl rfl rfl (by rw [hg49_2]; rfl)) ?_
             refine wl_v (x_pickF (tmB rfl rfl) hg49_2 ev_c) ?_
             refine wl_v (x_move (tmB rfl rfl)) ?_
             refine wl_s rfl (want_n rfl rfl rfl rfl rfl) ?_
             refine wl_s rfl (want_n rfl rfl rfl rfl rfl) ?_
             refine wl_s rfl (want_n rfl rfl rfl rfl rfl) ?_
             refine wl_s rfl (want_n rfl rfl rfl rfl rfl) ?_
             refine wl_v (x_pickF (tmB rfl rfl) rfl ev_c) ?_
             refine wl_v (x_move (tmB rfl rfl)) ?_
             refine wl_s rfl (want_n rfl rfl rfl rfl rfl) ?_
             refine wl_s rfl (want_n rfl rfl rfl rfl rfl) ?_
             refine wl_s rfl (want_n rfl rfl rfl rfl rfl) ?_
             refine wl_s rfl (want_n rfl rfl rfl rfl rfl) ?_
             refine wl_v (x_pickF (tmB rfl rfl) rfl ev_c) ?_
             refine wl_v (x_move (tmB rfl rfl)) ?_
             refine wl_s rfl (want_n rfl rfl rfl rfl rfl) ?_
             refine wl_s rfl (want_n rfl rfl rfl rfl rfl) ?_
             refine wl_s rfl (want_n rfl rfl rfl rfl rfl) ?_
             refine wl_s rfl (want_n rfl rfl rfl rfl rfl) ?_
             refine wl_s rfl (want_n rfl rfl rfl rfl rfl) ?_
             refine wl_s rfl (want_n rfl rfl rfl rfl rfl) ?_
             refine wl_s rfl (want_n rfl rfl rfl rfl rfl) ?_
             refine wl_s rfl (want_n rfl rfl rfl rfl rfl) ?_
             refine wl_s rfl (want_n rfl rfl rfl rfl rfl) ?_
             refine wl_v (x_pickF (tmB rfl rfl) rfl ev_c) ?_
             refine wl_v (x_move (tmB rfl rfl)) ?_
             refine wl_s rfl (want_n rfl rfl rfl rfl rfl) ?_
             refine wl_v (x_pickF (tmB rfl rfl) rfl ev_c) ?_
             refine wl_v (x_assign (tmB rfl rfl)) ?_
             refine wl_nil ?_
             refine then_n (hK52 _ _ ?_); clear hK52 K52
             refine wp_ret ?_
             refine ret1 rfl (.tmp rfl (show _ = Value.bool _ from rfl)) ?_
             first
               | exact ⟨rfl, hS.kp.below⟩
               | exact ⟨rfl, (hSa.kpc (is := [1, 2, 3, 4]) rfl rfl hS).below⟩
     have hg5_4' := hg5_4; (try simp only [nrm] at hg5_4'); try (exfalso; first | with_reducible exact absurd hg5_4 Bool.false_ne_true | with_reducible exact absurd hg5_4.symm Bool.false_ne_true | omega | (simp at hg5_4; done))
     all_goals
      refine wl_s rfl (want_n rfl rfl rfl rfl (by rw [hg5_4]; rfl)) ?_
      refine wl_s rfl (want_n rfl rfl rfl rfl (by rw [hg5_4]; rfl)) ?_
      refine wl_v (x_pickF (tmB rfl rfl) hg5_4 ev_c) ?_
      refine wl_nil ?_
      refine then_n (hK8 _ _ ?_); clear hK8 K8
      refine cnd_f (tmB rfl rfl) rfl ?_
      refine wp_exit ?_
      refine then_x ?_; clear hK7 K7
      refine then_x ?_
      refine inb_x ?_
      refine then_n (hK5 _ _ ?_); clear hK5 K5
      refine wp_seq_k ?_; intro K53 hK53
      refine wp_seq_k ?_; intro K54 hK54
      refine wlit ?_
      refine wl_v (x_assign (ev_cN 0)) ?_
      refine wl_nil ?_
      refine then_n (hK54 _ _ ?_); clear hK54 K54
      refine wp_block ?_
      have hsll : ls.length = rl.length := by simpa using congrArg List.length hls
      refine lp [4, 15, 16, 17, 163, 164, 165, 166, 167, 168, 169, 170, 171, 172, 173, 174, 175, 176, 177, 178, 179, 180, 181, 182, 183, 184, 185, 186] (fun mz g w => ∃ (j : Nat), ∃ (K4 : Option Addr), ∃ (q4 k4 : Nat), mz = m - j ∧ g 15 = .int .i64 (j : Int) ∧ St [] w0 [.row (.slice K4 q4 k4) 31 3 q4 (flat GLt.V (ls.drop j)), .blk gm 52 [.slice K4 q4 k4, .int .i64 (max most 0), .int .i64 ((lost : Nat) : Int)], .blk g3_5 40 [.int .i64 (max most 0), .slice R m cr, .int .i64 ((lost : Nat) : Int)], .row (.slice R m cr) 28 3 m (flat GLt.V rl), .vw A0 (flat GMAct.V rs)] w ∧ (j ≤ m) ∧ (q4 + j = m) ∧ (Aws w (blks [.row (.slice K4 q4 k4) 31 3 q4 (flat GLt.V (ls.drop j)), .blk gm 52 [.slice K4 q4 k4, .int .i64 (max most 0), .int .i64 ((lost : Nat) : Int)], .blk g3_5 40 [.int .i64 (max most 0), .slice R m cr, .int .i64 ((lost : Nat) : Int)], .row (.slice R m cr) 28 3 m (flat GLt.V rl)]) (ls.drop j))) ?_ ?_
      · exact ⟨_, 0, _, _, _, rfl, (by first | rfl | go_num | exact congrArg (Value.int _) (by first | omega | (simp; done) | (simp; omega))), hS, (by omega), (by omega), (by first | exact haw | (rw [← hcd]; exact (haw.step (hS.pick [0, 1, 2, 3] rfl rfl) rfl).sub hsb))⟩
      · clear hS; intro mz g w hI
        obtain ⟨j, K4, q4, k4, rfl, hs15, hS, hj, hq4, haw⟩ := hI
        refine fr_know (d := 15) hs15 ?_; clear hs15
        refine wp_seq_k ?_; intro K55 hK55
        refine wp_seq_k ?_; intro K56 hK56
        refine wlit ?_
        refine wl_v (x_move (tmI rfl rfl)) ?_
        refine wl_v (x_fa 1 Try.underlying40 rfl rfl ts_22 (tmP rfl rfl)) ?_
        first
         | refine wl_v (x_load Try.underlying22 rfl (tmP rfl rfl) (cellB hS.ok 2 rfl rfl)) ?_
         | refine wl_v (x_load Try.underlying22 rfl (tmP rfl rfl) (cellB hS.ok 2 rfl (getm (by omega)))) ?_
        refine wl_v (x_len Try.underlying22 (tmS rfl rfl)) ?_
        refine wl_v (x_lss (tmI rfl rfl) (tmI rfl rfl)) ?_
        refine wl_nil ?_
        refine then_n (hK56 _ _ ?_); clear hK56 K56
        refine cnd (tm rfl) (fun hc13 => ?_) (fun hc13 => ?_)
        · try (exfalso; first | with_reducible exact absurd hc13 Bool.false_ne_true | with_reducible exact absurd hc13.symm Bool.false_ne_true | (simp only [nrm] at hc13; omega) | (simp at hc13; done))
          all_goals
           try simp only [nrm] at hc13
           have hjm : j < m := by omega
           obtain ⟨gB, rfl⟩ := row_some (hS.rowOk 3 rfl) (by omega)
           have hcd : cutL (ls.drop j) 0 = ls.drop (j + 1) := by
             unfold cutL
             rw [List.take_zero, List.nil_append, List.drop_drop]
           have hsb : ∀ r ∈ cutL (ls.drop j) 0, r ∈ ls.drop j := cutL_mem
           have hxe : (ls.drop j).getD 0 default = ls.getD j default := by
             rw [List.getD_eq_getElem?_getD, List.getD_eq_getElem?_getD, List.getElem?_drop, Nat.add_zero]
           have hsll2 : ls.length = rl.length := by simpa using congrArg List.length hls
           have hxm : (ls.drop j).getD 0 default ∈ ls.drop j := by
             rw [List.getD_eq_getElem?_getD, List.getElem?_eq_getElem (by rw [List.length_drop]; omega)]
             exact List.getElem_mem _
           have hst := strip_get hls (k := j) (by omega)
           rw [← hxe] at hst
           have hsame : ((ls.drop j).getD 0 default).node = (rl.getD j default).node ∧ ((ls.drop j).getD 0 default).back = (rl.getD j default).back ∧ ((ls.drop j).getD 0 default).b.l = (rl.getD j default).b.l := by
             simpa [strip] using hst
           have hym : rl.getD j default ∈ rl := by
             rw [List.getD_eq_getElem?_getD, List.getElem?_eq_getElem (by omega)]
             exact List.getElem_mem _
           obtain ⟨⟨-, -, hyb, hyv⟩, -⟩ := hro _ hym
           refine wp_skip ?_
           refine then_n (hK55 _ _ ?_); clear hK55 K55
           refine wp_seq_k ?_; intro K57 hK57
           refine wp_block ?_
           refine wp_seq_k ?_; intro K58 hK58
           --ents row,gm,g3_5,rowr,vw
           have hSd := hS
           replace hS := hSd.enter [0, 1, 2, 3] [4] rfl rfl
           have hdr : (ls.drop j).length = q4 := by rw [List.length_drop]; omega
           have hT := fun F w h => mtake_in gm K4 q4 k4 (ls.drop j) (max most 0) ((lost : Nat) : Int) 0 F w h hdr (by omega) (by omega)
           try replace hS := St.nm (M' := [.row _ _ _ _ _, _, .blk _ _ [_, _, _], .row _ _ _ _ _, .vw _ _]) hS rfl
           refine wlit ?_
           refine wl_v (x_move (tmP rfl rfl)) ?_
           refine wl_e rfl ?_; intro K hK
           refine ow_call Try.func10 rfl rfl (evs_cons (tmP rfl rfl) <| evs_cons (ev_cN 0) <| evs_nil) (hT _ _ (hS.enter [0, 1] [] rfl rfl)) ?_
           rintro e w ⟨K5, k5, rfl, hS2⟩
           refine ⟨_, rfl, ?_⟩
           replace hS := hS.leave [0, 1] [2, 3, 4] rfl rfl rfl hS2 rfl --ents row,gm,g3_5,rowr,vw
           clear hS2
           try replace hS := St.nm (M' := [.row _ _ _ _ _, _, .blk _ _ [_, _, _], .row _ _ _ _ _, .vw _ _]) hS rfl
           refine hK _ _ ?_; clear hK K
           refine wl_v (x_move (tmT rfl rfl)) ?_
           refine wl_v (x_ext (tmT rfl rfl) rfl) ?_
           refine wl_v (x_ext (tmT rfl rfl) rfl) ?_
           refine wl_e rfl ?_; intro K hK
           refine ow_alloc hS tz_31 rfl ?_
           clear hS; intro g44_5 w hg44_5 hS
           refine hK _ _ ?_; clear hK K
           refine wl_e rfl ?_; intro K hK
           refine ow_storeA hS 0 rfl ts_31 (tmP rfl rfl) (tmA rfl rfl) rfl rfl rfl ?_
           clear hS; intro w hS
           try replace hS := St.nm (M' := [.blk _ _ [_, _, _], .row _ _ _ _ _, _, .blk _ _ [_, _, _], .row _ _ _ _ _, .vw _ _]) hS rfl
           refine hK _ _ ?_; clear hK K
           refine wl_v (x_assign (tmI rfl rfl)) ?_
           refine wl_nil ?_
           refine then_n (hK58 _ _ ?_); clear hK58 K58
           refine wp_seq_k ?_; intro K59 hK59
           refine rg_startk 0 hS mixed_ ?_
           clear hS; intro w hS
           refine rg_take 0 rfl rfl (by kernel_rfl) (by kernel_rfl) (by kernel_rfl) (want_0) (fun w hok => x_move (tmI rfl rfl)) ?_
           refine rg_take 1 rfl rfl (by kernel_rfl) (by kernel_rfl) (by kernel_rfl) (want_0) (fun w hok => x_neq (tmI rfl rfl) (ev_cN 0)) ?_
           refine rg_take 2 rfl rfl (by kernel_rfl) (by kernel_rfl) (by kernel_rfl) (want_0) (fun w hok => x_move (tmB rfl rfl)) ?_
           refine gs_rg (tm (t := 177) rfl) (fun hg45_2 => ?_) (fun hg45_2 => ?_)
           · exfalso
             first
               | (simp only [nrm] at hg45_2; omega)
               | (simp at hg45_2)
           have hg45_2' := hg45_2; (try simp only [nrm] at hg45_2'); try (exfalso; first | with_reducible exact absurd hg45_2 Bool.false_ne_true | with_reducible exact absurd hg45_2.symm Bool.false_ne_true | omega | (simp at hg45_2; done))
           all_goals
            refine rg_take 3 rfl rfl (by kernel_rfl) (by kernel_rfl) (by kernel_rfl) (want_y rfl rfl rfl rfl (by rw [hg45_2]; rfl)) (fun w hok => x_loadA (cs := [_, _, _]) Try.underlying31 rfl ts_31 (tmP rfl rfl) (rangeB hok 0 rfl rfl)) ?_
            refine rg_take 4 rfl rfl (by kernel_rfl) (by kernel_rfl) (by kernel_rfl) (want_y rfl rfl rfl rfl (by rw [hg45_2]; rfl)) (fun w hok => x_fa 1 Try.underlying40 rfl rfl ts_22 (tmP rfl rfl)) ?_
            first
             | refine rg_take 5 rfl rfl (by kernel_rfl) (by kernel_rfl) (by kernel_rfl) (want_y rfl rfl rfl rfl (by rw [hg45_2]; rfl)) (fun w hok => x_load Try.underlying22 rfl (tmP rfl rfl) (cellB hok 3 rfl rfl)) ?_
             | refine rg_take 5 rfl rfl (by kernel_rfl) (by kernel_rfl) (by kernel_rfl) (want_y rfl rfl rfl rfl (by rw [hg45_2]; rfl)) (fun w hok => x_load Try.underlying22 rfl (tmP rfl rfl) (cellB hok 3 rfl (getm (by omega)))) ?_
            refine rg_take 6 rfl rfl (by kernel_rfl) (by kernel_rfl) (by kernel_rfl) (want_y rfl rfl rfl rfl (by rw [hg45_2]; rfl)) (fun w hok => x_move (tmI rfl rfl)) ?_
            refine rg_take 7 rfl rfl (by kernel_rfl) (by kernel_rfl) (by kernel_rfl) (want_y rfl rfl rfl rfl (by rw [hg45_2]; rfl)) (fun w hok => x_ixs Try.underlying22 ts_28 (tmS rfl rfl) (tmI rfl rfl) (by omega)) ?_
            first
             | refine rg_take 8 rfl rfl (by kernel_rfl) (by kernel_rfl) (by kernel_rfl) (want_y rfl rfl rfl rfl (by rw [hg45_2]; rfl)) (fun w hok => x_loadA (cs := [_, _, _]) Try.underlying28 rfl ts_28 (tmP rfl rfl) (rangeB hok 2 rfl rfl)) ?_
             | refine rg_take 8 rfl rfl (by kernel_rfl) (by kernel_rfl) (by kernel_rfl) (want_y rfl rfl rfl rfl (by rw [hg45_2]; rfl)) (fun w hok => x_loadA Try.underlying28 rfl (by exact ts_28) (tmP rfl rfl) (rangeRs hok 1 rfl (fun _ => rfl) (by omega))) ?_
             | refine rg_take 8 rfl rfl (by kernel_rfl) (by kernel_rfl) (by kernel_rfl) (want_y rfl rfl rfl rfl (by rw [hg45_2]; rfl)) (fun w hok => x_loadA Try.underlying28 rfl (by exact ts_28) (tmP rfl rfl) (rangeRs hok 4 rfl (fun _ => rfl) (by omega))) ?_
             | refine rg_take 8 rfl rfl (by kernel_rfl) (by kernel_rfl) (by kernel_rfl) (want_y rfl rfl rfl rfl (by rw [hg45_2]; rfl)) (fun w hok => x_loadA Try.underlying28 rfl (by exact ts_28) (tmP rfl rfl) (rangeVs hok 5 rfl (fun _ => rfl) (by omega))) ?_
            refine rg_step 9 rfl (by kernel_rfl) (want_y rfl rfl rfl rfl (by rw [hg45_2]; rfl)) (oks_drop hS 0 rfl) ?_; intro K hK
            refine ow_call Try.func11 rfl rfl (evs_cons (tmA rfl rfl) <| evs_cons (tmA rfl rfl) <| evs_nil) (same_c ((ls.drop j).getD 0 default) (rl.getD j default) _ hsame (haw.step (hS.pick [1, 2, 3, 4] rfl rfl) rfl _ hxm).1 (view_on hyv (hSd.kpc (is := [0, 1, 2, 3]) rfl rfl hS)) hyb) ?_
            rintro e w ⟨rfl, hk1⟩
            refine ⟨_, rfl, ?_⟩
            replace hS := hS.kept hk1
            clear hk1
            refine hK _ _ ?_; clear hK K
            refine rg_take 10 rfl rfl (by kernel_rfl) (by kernel_rfl) (by kernel_rfl) (want_y rfl rfl rfl rfl (by rw [hg45_2]; rfl)) (fun w hok => x_not (tmB rfl rfl)) ?_
            refine rg_take 11 rfl rfl (by kernel_rfl) (by kernel_rfl) (by kernel_rfl) (want_0) (fun w hok => x_pickF (tmB rfl rfl) hg45_2 (tmB rfl rfl)) ?_
            refine rg_done (oks_drop hS 0 rfl) (by kernel_rfl) ?_
            refine then_n (hK59 _ _ ?_); clear hK59 K59
            refine cnd (tm rfl) (fun hc14 => ?_) (fun hc14 => ?_)
            · exfalso
              simp at hc14
            try (exfalso; first | with_reducible exact absurd hc14 Bool.false_ne_true | with_reducible exact absurd hc14.symm Bool.false_ne_true | (simp only [nrm] at hc14; omega) | (simp at hc14; done))
            all_goals
             try simp only [nrm] at hc14
             refine wp_skip ?_
             refine inb_n ?_
             refine then_n (hK57 _ _ ?_); clear hK57 K57
             refine wlit ?_
             refine wl_v (x_move (tmI rfl rfl)) ?_
             first
              | refine wl_v (x_addN (tmI rfl rfl) (ev_cN 1) (fit_i64 (by omega))) ?_
              | refine wl_v (x_addI (tmI rfl rfl) (ev_cN 1) (IntWalk.i64_in _ (by omega))) ?_
              | refine wl_v (x_add (tmI rfl rfl) (ev_cN 1)) ?_
             refine wl_v (x_assign (tmI rfl rfl)) ?_
             refine wl_nil ?_
             exact then_n ⟨_, _, rfl, (by show _ < _; omega), (by repeat (first | exact agree_self | exact agree_refl | refine agree_upd rfl ?_ | refine agree_mix rfl ?_)), j + 1, _, _, _, rfl, (by first | rfl | go_num | exact congrArg (Value.int _) (by first | omega | (simp; done) | (simp; omega))), (by rw [← hcd]; exact hSd.leave [0, 1, 2, 3] [4] rfl rfl rfl (hS.pick [1, 2, 3, 4] rfl rfl) rfl), (by omega), (by omega), (by first | exact haw | (rw [← hcd]; exact (haw.step (hS.pick [1, 2, 3, 4] rfl rfl) rfl).sub hsb))⟩
        try (exfalso; first | with_reducible exact absurd hc13 Bool.false_ne_true | with_reducible exact absurd hc13.symm Bool.false_ne_true | (simp only [nrm] at hc13; omega) | (simp at hc13; done))
        all_goals
         try simp only [nrm] at hc13
         refine wp_exit ?_
         refine then_x ?_; clear hK55 K55
         refine then_x ?_
         refine inb_x ?_
         refine then_n (hK53 _ _ ?_); clear hK53 K53
         refine wp_seq_k ?_; intro K60 hK60
         refine wlit ?_
         refine wl_v (x_assign ev_c) ?_
         refine wl_nil ?_
         refine then_n (hK60 _ _ ?_); clear hK60 K60
         refine wp_seq_k ?_; intro K61 hK61
         refine wlit ?_
         refine wl_v (x_move (tmP rfl rfl)) ?_
         refine wl_e rfl ?_; intro K hK
         refine ow_call Try.func10 rfl rfl (evs_cons (tmP rfl rfl) <| evs_cons (ev_cN 0) <| evs_nil) (ntake_c _) ?_
         rintro e w ⟨rfl, hk1⟩
         refine ⟨_, rfl, ?_⟩
         replace hS := hS.kept hk1
         clear hk1
         refine hK _ _ ?_; clear hK K
         refine wl_v (x_move (tmT rfl rfl)) ?_
         refine wl_v (x_ext (tmT rfl rfl) rfl) ?_
         refine wl_v (x_ext (tmT rfl rfl) rfl) ?_
         refine wl_e rfl ?_; intro K hK
         refine ow_alloc hS tz_31 rfl ?_
         clear hS; intro g48_5 w hg48_5 hS
         refine hK _ _ ?_; clear hK K
         refine wl_e rfl ?_; intro K hK
         refine ow_storeA hS 0 rfl ts_31 (tmP rfl rfl) (tmA rfl rfl) rfl rfl rfl ?_
         clear hS; intro w hS
         try replace hS := St.nm (M' := [.blk _ _ [_, _, _], .row _ _ _ _ _, _, .blk _ _ [_, _, _], .row _ _ _ _ _, .vw _ _]) hS rfl
         refine hK _ _ ?_; clear hK K
         refine wl_v (x_assign (tmI rfl rfl)) ?_
         refine wl_nil ?_
         refine then_n (hK61 _ _ ?_); clear hK61 K61
         refine wp_seq_k ?_; intro K62 hK62
         refine wlit ?_
         refine wl_v (x_move (tmI rfl rfl)) ?_
         refine wl_v (x_eql (tmI rfl rfl) (ev_cN 6)) ?_
         refine wl_v (x_move (tmB rfl rfl)) ?_
         refine gs_wl (tm (t := 194) rfl) (fun hg49_2 => ?_) (fun hg49_2 => ?_)
         · have hg49_2' := hg49_2; (try simp only [nrm] at hg49_2'); try (exfalso; first | with_reducible exact absurd hg49_2 Bool.false_ne_true | with_reducible exact absurd hg49_2.symm Bool.false_ne_true | omega | (simp at hg49_2; done))
           all_goals
            refine wl_gv (want_y rfl rfl rfl rfl (by rw [hg49_2]; rfl)) (x_move (tmP rfl rfl)) ?_
            refine wl_gv (want_y rfl rfl rfl rfl (by rw [hg49_2]; rfl)) (x_build (bc_skip (.int .i64 0) <| bc_skip (.bool false) <| bc_skip (.slice none 0 0) <| bc_nil) (by kernel_rfl)) ?_
            refine wl_g (want_y rfl rfl rfl rfl (by rw [hg49_2]; rfl)) ?_; intro K hK
            refine ow_call Try.func7 rfl rfl (evs_cons (tmP rfl rfl) <| evs_cons (tmA rfl rfl) <| evs_nil) (nsend_c _) ?_
            rintro e w ⟨rfl, hk1⟩
            refine ⟨_, rfl, ?_⟩
            replace hS := hS.kept hk1
            clear hk1
            refine hK _ _ ?_; clear hK K
            refine wl_gv (want_y rfl rfl rfl rfl (by rw [hg49_2]; rfl)) (x_eql (tmI rfl rfl) (ev_cN 3)) ?_
            refine wl_v (x_pickT (tmB rfl rfl) hg49_2 (tmB rfl rfl)) ?_
            refine wl_v (x_move (tmB rfl rfl)) ?_
            refine gs_wl (tm (t := 200) rfl) (fun hg49_8 => ?_) (fun hg49_8 => ?_)
            · have hg49_8' := hg49_8; (try simp only [nrm] at hg49_8'); try (exfalso; first | with_reducible exact absurd hg49_8 Bool.false_ne_true | with_reducible exact absurd hg49_8.symm Bool.false_ne_true | omega | (simp at hg49_8; done))
              all_goals
               refine wl_gv (want_y rfl rfl rfl rfl (by rw [hg49_8]; rfl)) (x_move (tmP rfl rfl)) ?_
               refine wl_g (want_y rfl rfl rfl rfl (by rw [hg49_8]; rfl)) ?_; intro K hK
               refine ow_call Try.func14 rfl rfl (evs_cons (tmP rfl rfl) <| evs_cons (ev_cN 0) <| evs_nil) (ndrop_c _) ?_
               rintro e w ⟨rfl, hk1⟩
               refine ⟨_, rfl, ?_⟩
               replace hS := hS.kept hk1
               clear hk1
               refine hK _ _ ?_; clear hK K
               refine wl_gv (want_y rfl rfl rfl rfl (by rw [hg49_8]; rfl)) (x_move (tmI rfl rfl)) ?_
               refine wl_gv (want_y rfl rfl rfl rfl (by rw [hg49_8]; rfl)) (x_eql (tmI rfl rfl) (tmI rfl rfl)) ?_
               refine wl_v (x_pickT (tmB rfl rfl) hg49_8 (tmB rfl rfl)) ?_
               refine wl_v (x_move (tmB rfl rfl)) ?_
               refine gs_wl (tm (t := 206) rfl) (fun hg49_14 => ?_) (fun hg49_14 => ?_)
               · have hg49_14' := hg49_14; (try simp only [nrm] at hg49_14'); try (exfalso; first | with_reducible exact absurd hg49_14 Bool.false_ne_true | with_reducible exact absurd hg49_14.symm Bool.false_ne_true | omega | (simp at hg49_14; done))
                 all_goals
                  refine wl_gv (want_y rfl rfl rfl rfl (by rw [hg49_14]; rfl)) (x_move (tmP rfl rfl)) ?_
                  refine wl_g (want_y rfl rfl rfl rfl (by rw [hg49_14]; rfl)) ?_; intro K hK
                  refine ow_call Try.func15 rfl rfl (evs_cons (tmP rfl rfl) <| evs_cons (ev_cN 0) <| evs_nil) (ntwice_c _) ?_
                  rintro e w ⟨rfl, hk1⟩
                  refine ⟨_, rfl, ?_⟩
                  replace hS := hS.kept hk1
                  clear hk1
                  refine hK _ _ ?_; clear hK K
                  refine wl_gv (want_y rfl rfl rfl rfl (by rw [hg49_14]; rfl)) (x_move (tmI rfl rfl)) ?_
                  refine wl_gv (want_y rfl rfl rfl rfl (by rw [hg49_14]; rfl)) (x_eql (tmI rfl rfl) (tmI rfl rfl)) ?_
                  refine wl_v (x_pickT (tmB rfl rfl) hg49_14 (tmB rfl rfl)) ?_
                  refine wl_v (x_move (tmB rfl rfl)) ?_
                  refine gs_wl (tm (t := 212) rfl) (fun hg49_20 => ?_) (fun hg49_20 => ?_)
                  · have hg49_20' := hg49_20; (try simp only [nrm] at hg49_20'); try (exfalso; first | with_reducible exact absurd hg49_20 Bool.false_ne_true | with_reducible exact absurd hg49_20.symm Bool.false_ne_true | omega | (simp at hg49_20; done))
                    all_goals
                     refine wl_gv (want_y rfl rfl rfl rfl (by rw [hg49_20]; rfl)) (x_move (tmP rfl rfl)) ?_
                     refine wl_g (want_y rfl rfl rfl rfl (by rw [hg49_20]; rfl)) ?_; intro K hK
                     refine ow_call Try.func9 rfl rfl (evs_cons (tmP rfl rfl) <| evs_cons (ev_cN 0) <| evs_nil) (nclear_c _) ?_
                     rintro e w ⟨rfl, hk1⟩
                     refine ⟨_, rfl, ?_⟩
                     replace hS := hS.kept hk1
                     clear hk1
                     refine hK _ _ ?_; clear hK K
                     refine wl_gv (want_y rfl rfl rfl rfl (by rw [hg49_20]; rfl)) (x_move (tmP rfl rfl)) ?_
                     refine wl_g (want_y rfl rfl rfl rfl (by rw [hg49_20]; rfl)) ?_; intro K hK
                     refine ow_call Try.func8 rfl rfl (evs_cons (tmP rfl rfl) <| evs_nil) (nlen_c _) ?_
                     rintro e w ⟨rfl, hk1⟩
                     refine ⟨_, rfl, ?_⟩
                     replace hS := hS.kept hk1
                     clear hk1
                     refine hK _ _ ?_; clear hK K
                     first
                      | refine wl_gv (want_y rfl rfl rfl rfl (by rw [hg49_20]; rfl)) (x_addN (tmI rfl rfl) (tmI rfl rfl) (fit_i64 (by omega))) ?_
                      | refine wl_gv (want_y rfl rfl rfl rfl (by rw [hg49_20]; rfl)) (x_addI (tmI rfl rfl) (tmI rfl rfl) (IntWalk.i64_in _ (by omega))) ?_
                      | refine wl_gv (want_y rfl rfl rfl rfl (by rw [hg49_20]; rfl)) (x_add (tmI rfl rfl) (tmI rfl rfl)) ?_
                     refine wl_gv (want_y rfl rfl rfl rfl (by rw [hg49_20]; rfl)) (x_move (tmP rfl rfl)) ?_
                     refine wl_g (want_y rfl rfl rfl rfl (by rw [hg49_20]; rfl)) ?_; intro K hK
                     refine ow_call Try.func18 rfl rfl (evs_cons (tmP rfl rfl) <| evs_nil) (nlost_c _) ?_
                     rintro e w ⟨rfl, hk1⟩
                     refine ⟨_, rfl, ?_⟩
                     replace hS := hS.kept hk1
                     clear hk1
                     refine hK _ _ ?_; clear hK K
                     first
                      | refine wl_gv (want_y rfl rfl rfl rfl (by rw [hg49_20]; rfl)) (x_addN (tmI rfl rfl) (tmI rfl rfl) (fit_i64 (by omega))) ?_
                      | refine wl_gv (want_y rfl rfl rfl rfl (by rw [hg49_20]; rfl)) (x_addI (tmI rfl rfl) (tmI rfl rfl) (IntWalk.i64_in _ (by omega))) ?_
                      | refine wl_gv (want_y rfl rfl rfl rfl (by rw [hg49_20]; rfl)) (x_add (tmI rfl rfl) (tmI rfl rfl)) ?_
                     refine wl_gv (want_y rfl rfl rfl rfl (by rw [hg49_20]; rfl)) (x_eql (tmI rfl rfl) (ev_cN 0)) ?_
                     refine wl_v (x_pickT (tmB rfl rfl) hg49_20 (tmB rfl rfl)) ?_
                     refine wl_v (x_move (tmB rfl rfl)) ?_
                     refine gs_wl (tm (t := 223) rfl) (fun hg49_31 => ?_) (fun hg49_31 => ?_)
                     · have hg49_31' := hg49_31; (try simp only [nrm] at hg49_31'); try (exfalso; first | with_reducible exact absurd hg49_31 Bool.false_ne_true | with_reducible exact absurd hg49_31.symm Bool.false_ne_true | omega | (simp at hg49_31; done))
                       all_goals
                        refine wl_g (want_y rfl rfl rfl rfl (by rw [hg49_31]; rfl)) ?_; intro K hK
                        refine ow_call Try.func5 rfl rfl (evs_nil) (law34_awake_c _) ?_
                        rintro e w ⟨rfl, hk1⟩
                        refine ⟨_, rfl, ?_⟩
                        replace hS := hS.kept hk1
                        clear hk1
                        refine hK _ _ ?_; clear hK K
                        refine wl_v (x_pickT (tmB rfl rfl) hg49_31 (tmB rfl rfl)) ?_
                        refine wl_v (x_assign (tmB rfl rfl)) ?_
                        refine wl_nil ?_
                        refine then_n (hK62 _ _ ?_); clear hK62 K62
                        refine wp_ret ?_
                        refine ret1 rfl (.tmp rfl (show _ = Value.bool _ from rfl)) ?_
                        first
                          | exact ⟨rfl, hS.kp.below⟩
                          | exact ⟨rfl, (hSa.kpc (is := [1, 2, 3, 4]) rfl rfl hS).below⟩
                     have hg49_31' := hg49_31; (try simp only [nrm] at hg49_31'); try (exfalso; first | with_reducible exact absurd hg49_31 Bool.false_ne_true | with_reducible exact absurd hg49_31.symm Bool.false_ne_true | omega | (simp at hg49_31; done))
                     all_goals
                      refine wl_s rfl (want_n rfl rfl rfl rfl (by rw [hg49_31]; rfl)) ?_
                      refine wl_v (x_pickF (tmB rfl rfl) hg49_31 ev_c) ?_
                      refine wl_v (x_assign (tmB rfl rfl)) ?_
                      refine wl_nil ?_
                      refine then_n (hK62 _ _ ?_); clear hK62 K62
                      refine wp_ret ?_
                      refine ret1 rfl (.tmp rfl (show _ = Value.bool _ from rfl)) ?_
                      first
                        | exact ⟨rfl, hS.kp.below⟩
                        | exact ⟨rfl, (hSa.kpc (is := [1, 2, 3, 4]) rfl rfl hS).below⟩
                  have hg49_20' := hg49_20; (try simp only [nrm] at hg49_20'); try (exfalso; first | with_reducible exact absurd hg49_20 Bool.false_ne_true | with_reducible exact absurd hg49_20.symm Bool.false_ne_true | omega | (simp at hg49_20; done))
                  all_goals
                   refine wl_s rfl (want_n rfl rfl rfl rfl (by rw [hg49_20]; rfl)) ?_
                   refine wl_s rfl (want_n rfl rfl rfl rfl (by rw [hg49_20]; rfl)) ?_
                   refine wl_s rfl (want_n rfl rfl rfl rfl (by rw [hg49_20]; rfl)) ?_
                   refine wl_s rfl (want_n rfl rfl rfl rfl (by rw [hg49_20]; rfl)) ?_
                   refine wl_s rfl (want_n rfl rfl rfl rfl (by rw [hg49_20]; rfl)) ?_
                   refine wl_s rfl (want_n rfl rfl rfl rfl (by rw [hg49_20]; rfl)) ?_
                   refine wl_s rfl (want_n rfl rfl rfl rfl (by rw [hg49_20]; rfl)) ?_
                   refine wl_s rfl (want_n rfl rfl rfl rfl (by rw [hg49_20]; rfl)) ?_
                   refine wl_s rfl (want_n rfl rfl rfl rfl (by rw [hg49_20]; rfl)) ?_
                   refine wl_v (x_pickF (tmB rfl rfl) hg49_20 ev_c) ?_
                   refine wl_v (x_move (tmB rfl rfl)) ?_
                   refine wl_s rfl (want_n rfl rfl rfl rfl rfl) ?_
                   refine wl_v (x_pickF (tmB rfl rfl) rfl ev_c) ?_
                   refine wl_v (x_assign (tmB rfl rfl)) ?_
                   refine wl_nil ?_
                   refine then_n (hK62 _ _ ?_); clear hK62 K62
                   refine wp_ret ?_
                   refine ret1 rfl (.tmp rfl (show _ = Value.bool _ from rfl)) ?_
                   first
                     | exact ⟨rfl, hS.kp.below⟩
                     | exact ⟨rfl, (hSa.kpc (is := [1, 2, 3, 4]) rfl rfl hS).below⟩
               have hg49_14' := hg49_14; (try simp only [nrm] at hg49_14'); try (exfalso; first | with_reducible exact absurd hg49_14 Bool.false_ne_true | with_reducible exact absurd hg49_14.symm Bool.false_ne_true | omega | (simp at hg49_14; done))
               all_goals
                refine wl_s rfl (want_n rfl rfl rfl rfl (by rw [hg49_14]; rfl)) ?_
                refine wl_s rfl (want_n rfl rfl rfl rfl (by rw [hg49_14]; rfl)) ?_
                refine wl_s rfl (want_n rfl rfl rfl rfl (by rw [hg49_14]; rfl)) ?_
                refine wl_s rfl (want_n rfl rfl rfl rfl (by rw [hg49_14]; rfl)) ?_
                refine wl_v (x_pickF (tmB rfl rfl) hg49_14 ev_c) ?_
                refine wl_v (x_move (tmB rfl rfl)) ?_
                refine wl_s rfl (want_n rfl rfl rfl rfl rfl) ?_
                refine wl_s rfl (want_n rfl rfl rfl rfl rfl) ?_
                refine wl_s rfl (want_n rfl rfl rfl rfl rfl) ?_
                refine wl_s rfl (want_n rfl rfl rfl rfl rfl) ?_
                refine wl_s rfl (want_n rfl rfl rfl rfl rfl) ?_
                refine wl_s rfl (want_n rfl rfl rfl rfl rfl) ?_
                refine wl_s rfl (want_n rfl rfl rfl rfl rfl) ?_
                refine wl_s rfl (want_n rfl rfl rfl rfl rfl) ?_
                refine wl_s rfl (want_n rfl rfl rfl rfl rfl) ?_
                refine wl_v (x_pickF (tmB rfl rfl) rfl ev_c) ?_
                refine wl_v (x_move (tmB rfl rfl)) ?_
                refine wl_s rfl (want_n rfl rfl rfl rfl rfl) ?_
                refine wl_v (x_pickF (tmB rfl rfl) rfl ev_c) ?_
                refine wl_v (x_assign (tmB rfl rfl)) ?_
                refine wl_nil ?_
                refine then_n (hK62 _ _ ?_); clear hK62 K62
                refine wp_ret ?_
                refine ret1 rfl (.tmp rfl (show _ = Value.bool _ from rfl)) ?_
                first
                  | exact ⟨rfl, hS.kp.below⟩
                  | exact ⟨rfl, (hSa.kpc (is := [1, 2, 3, 4]) rfl rfl hS).below⟩
            have hg49_8' := hg49_8; (try simp only [nrm] at hg49_8'); try (exfalso; first | with_reducible exact absurd hg49_8 Bool.false_ne_true | with_reducible exact absurd hg49_8.symm Bool.false_ne_true | omega | (simp at hg49_8; done))
            all_goals
             refine wl_s rfl (want_n rfl rfl rfl rfl (by rw [hg49_8]; rfl)) ?_
             refine wl_s rfl (want_n rfl rfl rfl rfl (by rw [hg49_8]; rfl)) ?_
             refine wl_s rfl (want_n rfl rfl rfl rfl (by rw [hg49_8]; rfl)) ?_
             refine wl_s rfl (want_n rfl rfl rfl rfl (by rw [hg49_8]; rfl)) ?_
             refine wl_v (x_pickF (tmB rfl rfl) hg49_8 ev_c) ?_
             refine wl_v (x_move (tmB rfl rfl)) ?_
             refine wl_s rfl (want_n rfl rfl rfl rfl rfl) ?_
             refine wl_s rfl (want_n rfl rfl rfl rfl rfl) ?_
             refine wl_s rfl (want_n rfl rfl rfl rfl rfl) ?_
             refine wl_s rfl (want_n rfl rfl rfl rfl rfl) ?_
             refine wl_v (x_pickF (tmB rfl rfl) rfl ev_c) ?_
             refine wl_v (x_move (tmB rfl rfl)) ?_
             refine wl_s rfl (want_n rfl rfl rfl rfl rfl) ?_
             refine wl_s rfl (want_n rfl rfl rfl rfl rfl) ?_
             refine wl_s rfl (want_n rfl rfl rfl rfl rfl) ?_
             refine wl_s rfl (want_n rfl rfl rfl rfl rfl) ?_
             refine wl_s rfl (want_n rfl rfl rfl rfl rfl) ?_
             refine wl_s rfl (want_n rfl rfl rfl rfl rfl) ?_
             refine wl_s rfl (want_n rfl rfl rfl rfl rfl) ?_
             refine wl_s rfl (want_n rfl rfl rfl rfl rfl) ?_
             refine wl_s rfl (want_n rfl rfl rfl rfl rfl) ?_
             refine wl_v (x_pickF (tmB rfl rfl) rfl ev_c) ?_
             refine wl_v (x_move (tmB rfl rfl)) ?_
             refine wl_s rfl (want_n rfl rfl rfl rfl rfl) ?_
             refine wl_v (x_pickF (tmB rfl rfl) rfl ev_c) ?_
             refine wl_v (x_assign (tmB rfl rfl)) ?_
             refine wl_nil ?_
             refine then_n (hK62 _ _ ?_); clear hK62 K62
             refine wp_ret ?_
             refine ret1 rfl (.tmp rfl (show _ = Value.bool _ from rfl)) ?_
             first
               | exact ⟨rfl, hS.kp.below⟩
               | exact ⟨rfl, (hSa.kpc (is := [1, 2, 3, 4]) rfl rfl hS).below⟩
         have hg49_2' := hg49_2; (try simp only [nrm] at hg49_2'); try (exfalso; first | with_reducible exact absurd hg49_2 Bool.false_ne_true | with_reducible exact absurd hg49_2.symm Bool.false_ne_true | omega | (simp at hg49_2; done))
         all_goals
          refine wl_s rfl (want_n rfl rfl rfl rfl (by rw [hg49_2]; rfl)) ?_
          refine wl_s rfl (want_n rfl rfl rfl rfl (by rw [hg49_2]; rfl)) ?_
          refine wl_s rfl (want_n rfl rfl rfl rfl (by rw [hg49_2]; rfl)) ?_
          refine wl_s rfl (want_n rfl rfl rfl rfl (by rw [hg49_2]; rfl)) ?_
          refine wl_v (x_pickF (tmB rfl rfl) hg49_2 ev_c) ?_
          refine wl_v (x_move (tmB rfl rfl)) ?_
          refine wl_s rfl (want_n rfl rfl rfl rfl rfl) ?_
          refine wl_s rfl (want_n rfl rfl rfl rfl rfl) ?_
          refine wl_s rfl (want_n rfl rfl rfl rfl rfl) ?_
          refine wl_s rfl (want_n rfl rfl rfl rfl rfl) ?_
          refine wl_v (x_pickF (tmB rfl rfl) rfl ev_c) ?_
          refine wl_v (x_move (tmB rfl rfl)) ?_
          refine wl_s rfl (want_n rfl rfl rfl rfl rfl) ?_
          refine wl_s rfl (want_n rfl rfl rfl rfl rfl) ?_
          refine wl_s rfl (want_n rfl rfl rfl rfl rfl) ?_
          refine wl_s rfl (want_n rfl rfl rfl rfl rfl) ?_
          refine wl_v (x_pickF (tmB rfl rfl) rfl ev_c) ?_
          refine wl_v (x_move (tmB rfl rfl)) ?_
          refine wl_s rfl (want_n rfl rfl rfl rfl rfl) ?_
          refine wl_s rfl (want_n rfl rfl rfl rfl rfl) ?_
          refine wl_s rfl (want_n rfl rfl rfl rfl rfl) ?_
          refine wl_s rfl (want_n rfl rfl rfl rfl rfl) ?_
          refine wl_s rfl (want_n rfl rfl rfl rfl rfl) ?_
          refine wl_s rfl (want_n rfl rfl rfl rfl rfl) ?_
          refine wl_s rfl (want_n rfl rfl rfl rfl rfl) ?_
          refine wl_s rfl (want_n rfl rfl rfl rfl rfl) ?_
          refine wl_s rfl (want_n rfl rfl rfl rfl rfl) ?_
          refine wl_v (x_pickF (tmB rfl rfl) rfl ev_c) ?_
          refine wl_v (x_move (tmB rfl rfl)) ?_
          refine wl_s rfl (want_n rfl rfl rfl rfl rfl) ?_
          refine wl_v (x_pickF (tmB rfl rfl) rfl ev_c) ?_
          refine wl_v (x_assign (tmB rfl rfl)) ?_
          refine wl_nil ?_
          refine then_n (hK62 _ _ ?_); clear hK62 K62
          refine wp_ret ?_
          refine ret1 rfl (.tmp rfl (show _ = Value.bool _ from rfl)) ?_
          first
            | exact ⟨rfl, hS.kp.below⟩
            | exact ⟨rfl, (hSa.kpc (is := [1, 2, 3, 4]) rfl rfl hS).below⟩
set_option maxRecDepth 100000 in
theorem walk {H : Type} {enc : TypeId × Value → H} {r : Reach} {b0 : Nat} {d : DataW H} {ps : List MemPlace} (most : Int) (v : Value) (w0 : World) (_hn : -9223372036854775808 ≤ most ∧ most ≤ 9223372036854775807)
    (hval : Value.okWide Try.prog w0 r b0 38 v) (hd : DataW.Trod enc Try.prog w0 0 (fun _ => true) true 38 v d ps) (hlt : ∀ x ∈ ps, x.block < w0.heap.size) :
    Calls Try.prog 4 #[.int .i64 most, v] w0 fun e w' => e = .returned (.bool true) ∧ Below w0.heap.size w0 w' := by
  obtain ⟨s, rfl, hnc, hcm, hv, hall⟩ := arg_sl (V := GMAct.V) (ok := fun r => r.ok w0) Try.underlying38 5 (by kernel_rfl) (by omega) GMAct.open_t hval hd hlt
  have hmx : maxLen = 9223372036854775807 := by simp [maxLen]
  rw [hmx] at hcm
  exact walk_all s.a s.c s.l.length s.l most w0 hv hall rfl (Nat.le_trans hnc hcm)
end MailPlays
end Go.Proofs.Ytijeegfmfpamkaa
