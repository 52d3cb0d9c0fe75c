
/- ip4: the reference's Same, Of, To, by contract. Conditions: none but bounds. -/
import Derived.Test.YtfagblcepibliaaIp4B
namespace Go.Proofs.Ytfagblcepibliaa
open Go.RowKit

set_option maxRecDepth 100000 in
set_option maxHeartbeats 4000000 in
theorem same04_c (a1 : Nat) (a2 : Int) (a3 : Nat) (a4 a5 : Bool) (a6 : Int) (a7 a8 a9 : Nat) (s d : Ad) (O : Option Addr) (m c : Nat) (b1 : Nat) (b2 : Int) (b3 : Nat) (b4 b5 : Bool) (b6 : Int) (b7 b8 b9 : Nat) (s' d' : Ad) (O' : Option Addr) (m' c' : Nat) (o o' : List Nat) (w0 : World)
    (h1 : View w0 w0.heap.size O (o.map u8v)) (e1 : o.length = m) (f1 : Bytes o) (h3 : View w0 w0.heap.size O' (o'.map u8v)) (e3 : o'.length = m') (f3 : Bytes o') (hall : a1 = b1 ∧ a2 = b2 ∧ a3 = b3 ∧ a4 = b4 ∧ a5 = b5 ∧ a6 = b6 ∧ a7 = b7 ∧ a8 = b8 ∧ a9 = b9 ∧ s = s' ∧ d = d' ∧ o = o') :
    Calls Try.prog 22 #[.agg (hdV a1 a2 a3 a4 a5 a6 a7 a8 a9 s d O m c).toArray, .agg (hdV b1 b2 b3 b4 b5 b6 b7 b8 b9 s' d' O' m' c').toArray] w0 fun e w' => e = .returned (.bool true) ∧ Kp [] w0 w' := by
  obtain ⟨rfl, rfl, rfl, rfl, rfl, rfl, rfl, rfl, rfl, rfl, rfl, rfl⟩ := hall
  obtain ⟨s1, s2, s3⟩ := s
  obtain ⟨d1, d2, d3⟩ := d
  have hS := ((St.sv w0).vcons rfl h1).vcons rfl h3
  refine ent (n := 93) Try.func22 rfl rfl ?_
  refine wp_seq_k ?_; intro K1 hK1
  refine wlit ?_
  refine wl_e rfl ?_; intro K hK
  refine ow_box hS (tmA rfl rfl) rfl ?_
  clear hS; intro g0_0 w hg0_0 hS
  refine hK _ _ ?_; clear hK K
  refine wl_e rfl ?_; intro K hK
  refine ow_box hS (tmA rfl rfl) rfl ?_
  clear hS; intro g0_1 w hg0_1 hS
  refine hK _ _ ?_; clear hK K
  refine wl_v (x_assign ev_c) ?_
  refine wl_nil ?_
  refine then_n (hK1 _ _ ?_); clear hK1 K1
  refine wp_seq_k ?_; intro K2 hK2
  refine rg_startk 0 hS mixed_ ?_
  clear hS; intro w hS
  refine rg_take 0 rfl rfl (by kernel_rfl) (by kernel_rfl) (by kernel_rfl) (want_0) (fun w hok => x_loadA (cs := [_, _, _, _, _, _, _, _, _, _, _, _, _, _, _, _]) Try.underlying33 rfl ts_33 (tmP rfl rfl) (rangeB hok 1 rfl rfl)) ?_
  refine rg_take 1 rfl rfl (by kernel_rfl) (by kernel_rfl) (by kernel_rfl) (want_0) (fun w hok => x_loadA (cs := [_, _, _, _, _, _, _, _, _, _, _, _, _, _, _, _]) Try.underlying33 rfl ts_33 (tmP rfl rfl) (rangeB hok 0 rfl rfl)) ?_
  refine rg_step2 2 3 rfl rfl (by kernel_rfl) (want_0) (want_0) (oks_drop hS 0 rfl) ?_ ?_
  · intro K hK
    refine ow_alloc hS tz_33 rfl ?_
    clear hS; intro g1_2 w hg1_2 hS
    refine hK _ _ ?_; clear hK K
    refine rg_step 3 rfl (by kernel_rfl) (want_0) (oks_drop hS 1 rfl) ?_; intro K hK
    refine ow_alloc hS tz_33 rfl ?_
    clear hS; intro g1_3 w hg1_3 hS
    refine hK _ _ ?_; clear hK K
    refine rg_step 4 rfl (by kernel_rfl) (want_0) (oks_drop hS 2 rfl) ?_; intro K hK
    refine ow_storeA hS 1 rfl ts_33 (tmP rfl rfl) (tmA rfl rfl) rfl rfl rfl ?_
    clear hS; intro w hS
    try replace hS := St.nm (M' := [.blk _ _ [_, _, _, _, _, _, _, _, _, _, _, _, _, _, _, _], .blk _ _ [_, _, _, _, _, _, _, _, _, _, _, _, _, _, _, _], .blk _ _ [_, _, _, _, _, _, _, _, _, _, _, _, _, _, _, _], .blk _ _ [_, _, _, _, _, _, _, _, _, _, _, _, _, _, _, _], .vw _ _, .vw _ _]) hS rfl
    refine hK _ _ ?_; clear hK K
    refine rg_step 5 rfl (by kernel_rfl) (want_0) (oks_drop hS 2 rfl) ?_; intro K hK
    refine ow_storeA hS 0 rfl ts_33 (tmP rfl rfl) (tmA rfl rfl) rfl rfl rfl ?_
    clear hS; intro w hS
    try replace hS := St.nm (M' := [.blk _ _ [_, _, _, _, _, _, _, _, _, _, _, _, _, _, _, _], .blk _ _ [_, _, _, _, _, _, _, _, _, _, _, _, _, _, _, _], .blk _ _ [_, _, _, _, _, _, _, _, _, _, _, _, _, _, _, _], .blk _ _ [_, _, _, _, _, _, _, _, _, _, _, _, _, _, _, _], .vw _ _, .vw _ _]) hS rfl
    refine hK _ _ ?_; clear hK K
    refine rg_done (oks_drop hS 2 rfl) (by kernel_rfl) ?_
    refine then_n (hK2 _ _ ?_); clear hK2 K2
    refine wp_seq_k ?_; intro K3 hK3
    refine wlit ?_
    refine wl_v (x_fa 0 Try.underlying33 rfl rfl ts_5 (tmP rfl rfl)) ?_
    first
     | refine wl_v (x_load Try.underlying5 rfl (tmP rfl rfl) (cellB hS.ok 1 rfl rfl)) ?_
     | refine wl_v (x_load Try.underlying5 rfl (tmP rfl rfl) (cellB hS.ok 1 rfl (getm (by omega)))) ?_
    refine wl_v (x_fa 0 Try.underlying33 rfl rfl ts_5 (tmP rfl rfl)) ?_
    first
     | refine wl_v (x_load Try.underlying5 rfl (tmP rfl rfl) (cellB hS.ok 0 rfl rfl)) ?_
     | refine wl_v (x_load Try.underlying5 rfl (tmP rfl rfl) (cellB hS.ok 0 rfl (getm (by omega)))) ?_
    refine wl_v (x_eql (tmI rfl rfl) (tmI rfl rfl)) ?_
    refine wl_v (x_move (tmB rfl rfl)) ?_
    refine gs_wl (tm (t := 14) rfl) (fun hg2_5 => ?_) (fun hg2_5 => ?_)
    · have hg2_5' := hg2_5; (try simp only [nrm] at hg2_5'); try (exfalso; first | with_reducible exact absurd hg2_5 Bool.false_ne_true | with_reducible exact absurd hg2_5.symm Bool.false_ne_true | omega | (simp at hg2_5; done))
      all_goals
       refine wl_gv (want_y rfl rfl rfl rfl (by rw [hg2_5]; rfl)) (x_fa 1 Try.underlying33 rfl rfl ts_3 (tmP rfl rfl)) ?_
       first
        | refine wl_gv (want_y rfl rfl rfl rfl (by rw [hg2_5]; rfl)) (x_load Try.underlying3 rfl (tmP rfl rfl) (cellB hS.ok 1 rfl rfl)) ?_
        | refine wl_gv (want_y rfl rfl rfl rfl (by rw [hg2_5]; rfl)) (x_load Try.underlying3 rfl (tmP rfl rfl) (cellB hS.ok 1 rfl (getm (by omega)))) ?_
       refine wl_gv (want_y rfl rfl rfl rfl (by rw [hg2_5]; rfl)) (x_fa 1 Try.underlying33 rfl rfl ts_3 (tmP rfl rfl)) ?_
       first
        | refine wl_gv (want_y rfl rfl rfl rfl (by rw [hg2_5]; rfl)) (x_load Try.underlying3 rfl (tmP rfl rfl) (cellB hS.ok 0 rfl rfl)) ?_
        | refine wl_gv (want_y rfl rfl rfl rfl (by rw [hg2_5]; rfl)) (x_load Try.underlying3 rfl (tmP rfl rfl) (cellB hS.ok 0 rfl (getm (by omega)))) ?_
       refine wl_gv (want_y rfl rfl rfl rfl (by rw [hg2_5]; rfl)) (x_eql (tmI rfl rfl) (tmI rfl rfl)) ?_
       refine wl_v (x_pickT (tmB rfl rfl) hg2_5 (tmB rfl rfl)) ?_
       refine wl_v (x_move (tmB rfl rfl)) ?_
       refine gs_wl (tm (t := 21) rfl) (fun hg2_12 => ?_) (fun hg2_12 => ?_)
       · have hg2_12' := hg2_12; (try simp only [nrm] at hg2_12'); try (exfalso; first | with_reducible exact absurd hg2_12 Bool.false_ne_true | with_reducible exact absurd hg2_12.symm Bool.false_ne_true | omega | (simp at hg2_12; done))
         all_goals
          refine wl_gv (want_y rfl rfl rfl rfl (by rw [hg2_12]; rfl)) (x_fa 2 Try.underlying33 rfl rfl ts_24 (tmP rfl rfl)) ?_
          first
           | refine wl_gv (want_y rfl rfl rfl rfl (by rw [hg2_12]; rfl)) (x_load Try.underlying24 rfl (tmP rfl rfl) (cellB hS.ok 1 rfl rfl)) ?_
           | refine wl_gv (want_y rfl rfl rfl rfl (by rw [hg2_12]; rfl)) (x_load Try.underlying24 rfl (tmP rfl rfl) (cellB hS.ok 1 rfl (getm (by omega)))) ?_
          refine wl_gv (want_y rfl rfl rfl rfl (by rw [hg2_12]; rfl)) (x_fa 2 Try.underlying33 rfl rfl ts_24 (tmP rfl rfl)) ?_
          first
           | refine wl_gv (want_y rfl rfl rfl rfl (by rw [hg2_12]; rfl)) (x_load Try.underlying24 rfl (tmP rfl rfl) (cellB hS.ok 0 rfl rfl)) ?_
           | refine wl_gv (want_y rfl rfl rfl rfl (by rw [hg2_12]; rfl)) (x_load Try.underlying24 rfl (tmP rfl rfl) (cellB hS.ok 0 rfl (getm (by omega)))) ?_
          refine wl_gv (want_y rfl rfl rfl rfl (by rw [hg2_12]; rfl)) (x_eql (tmI rfl rfl) (tmI rfl rfl)) ?_
          refine wl_v (x_pickT (tmB rfl rfl) hg2_12 (tmB rfl rfl)) ?_
          refine wl_v (x_move (tmB rfl rfl)) ?_
          refine gs_wl (tm (t := 28) rfl) (fun hg2_19 => ?_) (fun hg2_19 => ?_)
          · have hg2_19' := hg2_19; (try simp only [nrm] at hg2_19'); try (exfalso; first | with_reducible exact absurd hg2_19 Bool.false_ne_true | with_reducible exact absurd hg2_19.symm Bool.false_ne_true | omega | (simp at hg2_19; done))
            all_goals
             refine wl_gv (want_y rfl rfl rfl rfl (by rw [hg2_19]; rfl)) (x_fa 3 Try.underlying33 rfl rfl ts_4 (tmP rfl rfl)) ?_
             first
              | refine wl_gv (want_y rfl rfl rfl rfl (by rw [hg2_19]; rfl)) (x_load Try.underlying4 rfl (tmP rfl rfl) (cellB hS.ok 1 rfl rfl)) ?_
              | refine wl_gv (want_y rfl rfl rfl rfl (by rw [hg2_19]; rfl)) (x_load Try.underlying4 rfl (tmP rfl rfl) (cellB hS.ok 1 rfl (getm (by omega)))) ?_
             refine wl_gv (want_y rfl rfl rfl rfl (by rw [hg2_19]; rfl)) (x_fa 3 Try.underlying33 rfl rfl ts_4 (tmP rfl rfl)) ?_
             first
              | refine wl_gv (want_y rfl rfl rfl rfl (by rw [hg2_19]; rfl)) (x_load Try.underlying4 rfl (tmP rfl rfl) (cellB hS.ok 0 rfl rfl)) ?_
              | refine wl_gv (want_y rfl rfl rfl rfl (by rw [hg2_19]; rfl)) (x_load Try.underlying4 rfl (tmP rfl rfl) (cellB hS.ok 0 rfl (getm (by omega)))) ?_
             refine wl_gv (want_y rfl rfl rfl rfl (by rw [hg2_19]; rfl)) (x_beql Try.underlying4 (tmB rfl rfl) (tmB rfl rfl)) ?_
             refine wl_v (x_pickT (tmB rfl rfl) hg2_19 (tmB rfl rfl)) ?_
             refine wl_v (x_move (tmB rfl rfl)) ?_
             refine gs_wl (tm (t := 35) rfl) (fun hg2_26 => ?_) (fun hg2_26 => ?_)
             · have hg2_26' := hg2_26; (try simp only [nrm] at hg2_26'); try (exfalso; first | with_reducible exact absurd hg2_26 Bool.false_ne_true | with_reducible exact absurd hg2_26.symm Bool.false_ne_true | omega | (simp at hg2_26; done))
               all_goals
                refine wl_gv (want_y rfl rfl rfl rfl (by rw [hg2_26]; rfl)) (x_fa 4 Try.underlying33 rfl rfl ts_4 (tmP rfl rfl)) ?_
                first
                 | refine wl_gv (want_y rfl rfl rfl rfl (by rw [hg2_26]; rfl)) (x_load Try.underlying4 rfl (tmP rfl rfl) (cellB hS.ok 1 rfl rfl)) ?_
                 | refine wl_gv (want_y rfl rfl rfl rfl (by rw [hg2_26]; rfl)) (x_load Try.underlying4 rfl (tmP rfl rfl) (cellB hS.ok 1 rfl (getm (by omega)))) ?_
                refine wl_gv (want_y rfl rfl rfl rfl (by rw [hg2_26]; rfl)) (x_fa 4 Try.underlying33 rfl rfl ts_4 (tmP rfl rfl)) ?_
                first
                 | refine wl_gv (want_y rfl rfl rfl rfl (by rw [hg2_26]; rfl)) (x_load Try.underlying4 rfl (tmP rfl rfl) (cellB hS.ok 0 rfl rfl)) ?_
                 | refine wl_gv (want_y rfl rfl rfl rfl (by rw [hg2_26]; rfl)) (x_load Try.underlying4 rfl (tmP rfl rfl) (cellB hS.ok 0 rfl (getm (by omega)))) ?_
                refine wl_gv (want_y rfl rfl rfl rfl (by rw [hg2_26]; rfl)) (x_beql Try.underlying4 (tmB rfl rfl) (tmB rfl rfl)) ?_
                refine wl_v (x_pickT (tmB rfl rfl) hg2_26 (tmB rfl rfl)) ?_
                refine wl_v (x_move (tmB rfl rfl)) ?_
                refine gs_wl (tm (t := 42) rfl) (fun hg2_33 => ?_) (fun hg2_33 => ?_)
                · have hg2_33' := hg2_33; (try simp only [nrm] at hg2_33'); try (exfalso; first | with_reducible exact absurd hg2_33 Bool.false_ne_true | with_reducible exact absurd hg2_33.symm Bool.false_ne_true | omega | (simp at hg2_33; done))
                  all_goals
                   refine wl_gv (want_y rfl rfl rfl rfl (by rw [hg2_33]; rfl)) (x_fa 5 Try.underlying33 rfl rfl ts_3 (tmP rfl rfl)) ?_
                   first
                    | refine wl_gv (want_y rfl rfl rfl rfl (by rw [hg2_33]; rfl)) (x_load Try.underlying3 rfl (tmP rfl rfl) (cellB hS.ok 1 rfl rfl)) ?_
                    | refine wl_gv (want_y rfl rfl rfl rfl (by rw [hg2_33]; rfl)) (x_load Try.underlying3 rfl (tmP rfl rfl) (cellB hS.ok 1 rfl (getm (by omega)))) ?_
                   refine wl_gv (want_y rfl rfl rfl rfl (by rw [hg2_33]; rfl)) (x_fa 5 Try.underlying33 rfl rfl ts_3 (tmP rfl rfl)) ?_
                   first
                    | refine wl_gv (want_y rfl rfl rfl rfl (by rw [hg2_33]; rfl)) (x_load Try.underlying3 rfl (tmP rfl rfl) (cellB hS.ok 0 rfl rfl)) ?_
                    | refine wl_gv (want_y rfl rfl rfl rfl (by rw [hg2_33]; rfl)) (x_load Try.underlying3 rfl (tmP rfl rfl) (cellB hS.ok 0 rfl (getm (by omega)))) ?_
                   refine wl_gv (want_y rfl rfl rfl rfl (by rw [hg2_33]; rfl)) (x_eql (tmI rfl rfl) (tmI rfl rfl)) ?_
                   refine wl_v (x_pickT (tmB rfl rfl) hg2_33 (tmB rfl rfl)) ?_
                   refine wl_v (x_move (tmB rfl rfl)) ?_
                   refine gs_wl (tm (t := 49) rfl) (fun hg2_40 => ?_) (fun hg2_40 => ?_)
                   · have hg2_40' := hg2_40; (try simp only [nrm] at hg2_40'); try (exfalso; first | with_reducible exact absurd hg2_40 Bool.false_ne_true | with_reducible exact absurd hg2_40.symm Bool.false_ne_true | omega | (simp at hg2_40; done))
                     all_goals
                      refine wl_gv (want_y rfl rfl rfl rfl (by rw [hg2_40]; rfl)) (x_fa 6 Try.underlying33 rfl rfl ts_5 (tmP rfl rfl)) ?_
                      first
                       | refine wl_gv (want_y rfl rfl rfl rfl (by rw [hg2_40]; rfl)) (x_load Try.underlying5 rfl (tmP rfl rfl) (cellB hS.ok 1 rfl rfl)) ?_
                       | refine wl_gv (want_y rfl rfl rfl rfl (by rw [hg2_40]; rfl)) (x_load Try.underlying5 rfl (tmP rfl rfl) (cellB hS.ok 1 rfl (getm (by omega)))) ?_
                      refine wl_gv (want_y rfl rfl rfl rfl (by rw [hg2_40]; rfl)) (x_fa 6 Try.underlying33 rfl rfl ts_5 (tmP rfl rfl)) ?_
                      first
                       | refine wl_gv (want_y rfl rfl rfl rfl (by rw [hg2_40]; rfl)) (x_load Try.underlying5 rfl (tmP rfl rfl) (cellB hS.ok 0 rfl rfl)) ?_
                       | refine wl_gv (want_y rfl rfl rfl rfl (by rw [hg2_40]; rfl)) (x_load Try.underlying5 rfl (tmP rfl rfl) (cellB hS.ok 0 rfl (getm (by omega)))) ?_
                      refine wl_gv (want_y rfl rfl rfl rfl (by rw [hg2_40]; rfl)) (x_eql (tmI rfl rfl) (tmI rfl rfl)) ?_
                      refine wl_v (x_pickT (tmB rfl rfl) hg2_40 (tmB rfl rfl)) ?_
                      refine wl_v (x_move (tmB rfl rfl)) ?_
                      refine gs_wl (tm (t := 56) rfl) (fun hg2_47 => ?_) (fun hg2_47 => ?_)
                      · have hg2_47' := hg2_47; (try simp only [nrm] at hg2_47'); try (exfalso; first | with_reducible exact absurd hg2_47 Bool.false_ne_true | with_reducible exact absurd hg2_47.symm Bool.false_ne_true | omega | (simp at hg2_47; done))
                        all_goals
                         refine wl_gv (want_y rfl rfl rfl rfl (by rw [hg2_47]; rfl)) (x_fa 7 Try.underlying33 rfl rfl ts_5 (tmP rfl rfl)) ?_
                         first
                          | refine wl_gv (want_y rfl rfl rfl rfl (by rw [hg2_47]; rfl)) (x_load Try.underlying5 rfl (tmP rfl rfl) (cellB hS.ok 1 rfl rfl)) ?_
                          | refine wl_gv (want_y rfl rfl rfl rfl (by rw [hg2_47]; rfl)) (x_load Try.underlying5 rfl (tmP rfl rfl) (cellB hS.ok 1 rfl (getm (by omega)))) ?_
                         refine wl_gv (want_y rfl rfl rfl rfl (by rw [hg2_47]; rfl)) (x_fa 7 Try.underlying33 rfl rfl ts_5 (tmP rfl rfl)) ?_
                         first
                          | refine wl_gv (want_y rfl rfl rfl rfl (by rw [hg2_47]; rfl)) (x_load Try.underlying5 rfl (tmP rfl rfl) (cellB hS.ok 0 rfl rfl)) ?_
                          | refine wl_gv (want_y rfl rfl rfl rfl (by rw [hg2_47]; rfl)) (x_load Try.underlying5 rfl (tmP rfl rfl) (cellB hS.ok 0 rfl (getm (by omega)))) ?_
                         refine wl_gv (want_y rfl rfl rfl rfl (by rw [hg2_47]; rfl)) (x_eql (tmI rfl rfl) (tmI rfl rfl)) ?_
                         refine wl_v (x_pickT (tmB rfl rfl) hg2_47 (tmB rfl rfl)) ?_
                         refine wl_v (x_move (tmB rfl rfl)) ?_
                         refine gs_wl (tm (t := 63) rfl) (fun hg2_54 => ?_) (fun hg2_54 => ?_)
                         · have hg2_54' := hg2_54; (try simp only [nrm] at hg2_54'); try (exfalso; first | with_reducible exact absurd hg2_54 Bool.false_ne_true | with_reducible exact absurd hg2_54.symm Bool.false_ne_true | omega | (simp at hg2_54; done))
                           all_goals
                            refine wl_gv (want_y rfl rfl rfl rfl (by rw [hg2_54]; rfl)) (x_fa 8 Try.underlying33 rfl rfl ts_24 (tmP rfl rfl)) ?_
                            first
                             | refine wl_gv (want_y rfl rfl rfl rfl (by rw [hg2_54]; rfl)) (x_load Try.underlying24 rfl (tmP rfl rfl) (cellB hS.ok 1 rfl rfl)) ?_
                             | refine wl_gv (want_y rfl rfl rfl rfl (by rw [hg2_54]; rfl)) (x_load Try.underlying24 rfl (tmP rfl rfl) (cellB hS.ok 1 rfl (getm (by omega)))) ?_
                            refine wl_gv (want_y rfl rfl rfl rfl (by rw [hg2_54]; rfl)) (x_fa 8 Try.underlying33 rfl rfl ts_24 (tmP rfl rfl)) ?_
                            first
                             | refine wl_gv (want_y rfl rfl rfl rfl (by rw [hg2_54]; rfl)) (x_load Try.underlying24 rfl (tmP rfl rfl) (cellB hS.ok 0 rfl rfl)) ?_
                             | refine wl_gv (want_y rfl rfl rfl rfl (by rw [hg2_54]; rfl)) (x_load Try.underlying24 rfl (tmP rfl rfl) (cellB hS.ok 0 rfl (getm (by omega)))) ?_
                            refine wl_gv (want_y rfl rfl rfl rfl (by rw [hg2_54]; rfl)) (x_eql (tmI rfl rfl) (tmI rfl rfl)) ?_
                            refine wl_v (x_pickT (tmB rfl rfl) hg2_54 (tmB rfl rfl)) ?_
                            refine wl_v (x_move (tmB rfl rfl)) ?_
                            refine gs_wl (tm (t := 70) rfl) (fun hg2_61 => ?_) (fun hg2_61 => ?_)
                            · have hg2_61' := hg2_61; (try simp only [nrm] at hg2_61'); try (exfalso; first | with_reducible exact absurd hg2_61 Bool.false_ne_true | with_reducible exact absurd hg2_61.symm Bool.false_ne_true | omega | (simp at hg2_61; done))
                              all_goals
                               refine wl_gv (want_y rfl rfl rfl rfl (by rw [hg2_61]; rfl)) (x_fa 9 Try.underlying33 rfl rfl ts_27 (tmP rfl rfl)) ?_
                               refine wl_gv (want_y rfl rfl rfl rfl (by rw [hg2_61]; rfl)) (x_loadA (cs := [_, _, _]) Try.underlying27 rfl ts_27 (tmP rfl rfl) (rangeB hS.ok 1 rfl rfl)) ?_
                               refine wl_gv (want_y rfl rfl rfl rfl (by rw [hg2_61]; rfl)) (x_fa 9 Try.underlying33 rfl rfl ts_27 (tmP rfl rfl)) ?_
                               refine wl_gv (want_y rfl rfl rfl rfl (by rw [hg2_61]; rfl)) (x_loadA (cs := [_, _, _]) Try.underlying27 rfl ts_27 (tmP rfl rfl) (rangeB hS.ok 0 rfl rfl)) ?_
                               refine wl_gv (want_y rfl rfl rfl rfl (by rw [hg2_61]; rfl)) (x_Aeql (by kernel_rfl) (tmA rfl rfl) (tmA rfl rfl) (eqv_A Try.underlying27 (by kernel_rfl) (fe_cons rfl (pt_1 Try.underlying4 rfl rfl) (pt_1 Try.underlying4 rfl rfl) (eqv_b Try.underlying4) <| fe_cons rfl (pt_1 Try.underlying25 rfl rfl) (pt_1 Try.underlying25 rfl rfl) (eqv_i Try.underlying25) <| fe_cons rfl (pt_1 Try.underlying25 rfl rfl) (pt_1 Try.underlying25 rfl rfl) (eqv_i Try.underlying25) <| fe_nil))) ?_
                               refine wl_v (x_pickT (tmB rfl rfl) hg2_61 (tmB rfl rfl)) ?_
                               refine wl_v (x_move (tmB rfl rfl)) ?_
                               refine gs_wl (tm (t := 77) rfl) (fun hg2_68 => ?_) (fun hg2_68 => ?_)
                               · have hg2_68' := hg2_68; (try simp only [nrm] at hg2_68'); try (exfalso; first | with_reducible exact absurd hg2_68 Bool.false_ne_true | with_reducible exact absurd hg2_68.symm Bool.false_ne_true | omega | (simp at hg2_68; done))
                                 all_goals
                                  refine wl_gv (want_y rfl rfl rfl rfl (by rw [hg2_68]; rfl)) (x_fa 12 Try.underlying33 rfl rfl ts_27 (tmP rfl rfl)) ?_
                                  refine wl_gv (want_y rfl rfl rfl rfl (by rw [hg2_68]; rfl)) (x_loadA (cs := [_, _, _]) Try.underlying27 rfl ts_27 (tmP rfl rfl) (rangeB hS.ok 1 rfl rfl)) ?_
                                  refine wl_gv (want_y rfl rfl rfl rfl (by rw [hg2_68]; rfl)) (x_fa 12 Try.underlying33 rfl rfl ts_27 (tmP rfl rfl)) ?_
                                  refine wl_gv (want_y rfl rfl rfl rfl (by rw [hg2_68]; rfl)) (x_loadA (cs := [_, _, _]) Try.underlying27 rfl ts_27 (tmP rfl rfl) (rangeB hS.ok 0 rfl rfl)) ?_
                                  refine wl_gv (want_y rfl rfl rfl rfl (by rw [hg2_68]; rfl)) (x_Aeql (by kernel_rfl) (tmA rfl rfl) (tmA rfl rfl) (eqv_A Try.underlying27 (by kernel_rfl) (fe_cons rfl (pt_1 Try.underlying4 rfl rfl) (pt_1 Try.underlying4 rfl rfl) (eqv_b Try.underlying4) <| fe_cons rfl (pt_1 Try.underlying25 rfl rfl) (pt_1 Try.underlying25 rfl rfl) (eqv_i Try.underlying25) <| fe_cons rfl (pt_1 Try.underlying25 rfl rfl) (pt_1 Try.underlying25 rfl rfl) (eqv_i Try.underlying25) <| fe_nil))) ?_
                                  refine wl_v (x_pickT (tmB rfl rfl) hg2_68 (tmB rfl rfl)) ?_
                                  refine wl_v (x_move (tmB rfl rfl)) ?_
                                  refine gs_wl (tm (t := 84) rfl) (fun hg2_75 => ?_) (fun hg2_75 => ?_)
                                  · have hg2_75' := hg2_75; (try simp only [nrm] at hg2_75'); try (exfalso; first | with_reducible exact absurd hg2_75 Bool.false_ne_true | with_reducible exact absurd hg2_75.symm Bool.false_ne_true | omega | (simp at hg2_75; done))
                                    all_goals
                                     refine wl_gv (want_y rfl rfl rfl rfl (by rw [hg2_75]; rfl)) (x_fa 15 Try.underlying33 rfl rfl ts_22 (tmP rfl rfl)) ?_
                                     first
                                      | refine wl_gv (want_y rfl rfl rfl rfl (by rw [hg2_75]; rfl)) (x_load Try.underlying22 rfl (tmP rfl rfl) (cellB hS.ok 1 rfl rfl)) ?_
                                      | refine wl_gv (want_y rfl rfl rfl rfl (by rw [hg2_75]; rfl)) (x_load Try.underlying22 rfl (tmP rfl rfl) (cellB hS.ok 1 rfl (getm (by omega)))) ?_
                                     first
                                      | refine wl_gv (want_y rfl rfl rfl rfl (by rw [hg2_75]; rfl)) (x_bstr Try.underlying22 Try.underlying5 Try.underlying9 (tmS rfl rfl) (viewV hS.ok 4 rfl) (by first | assumption | exact Bytes.nil | (repeat' (first | assumption | exact Bytes.nil | exact be_bytes _ _ | apply Bytes.append | apply Bytes.take | apply Bytes.drop | apply Bytes.replicate))) (by first | rfl | assumption | (simp; done) | (simp; omega) | omega)) ?_
                                      | refine wl_gv (want_y rfl rfl rfl rfl (by rw [hg2_75]; rfl)) (x_bstr Try.underlying22 Try.underlying5 Try.underlying9 (tmS rfl rfl) (viewV hS.ok 5 rfl) (by first | assumption | exact Bytes.nil | (repeat' (first | assumption | exact Bytes.nil | exact be_bytes _ _ | apply Bytes.append | apply Bytes.take | apply Bytes.drop | apply Bytes.replicate))) (by first | rfl | assumption | (simp; done) | (simp; omega) | omega)) ?_
                                      | refine wl_gv (want_y rfl rfl rfl rfl (by rw [hg2_75]; rfl)) (x_bstr Try.underlying22 Try.underlying5 Try.underlying9 (tmS rfl rfl) View.nil_ (by first | assumption | exact Bytes.nil | (repeat' (first | assumption | exact Bytes.nil | exact be_bytes _ _ | apply Bytes.append | apply Bytes.take | apply Bytes.drop | apply Bytes.replicate))) (by first | rfl | assumption | (simp; done) | (simp; omega) | omega)) ?_
                                     refine wl_gv (want_y rfl rfl rfl rfl (by rw [hg2_75]; rfl)) (x_fa 15 Try.underlying33 rfl rfl ts_22 (tmP rfl rfl)) ?_
                                     first
                                      | refine wl_gv (want_y rfl rfl rfl rfl (by rw [hg2_75]; rfl)) (x_load Try.underlying22 rfl (tmP rfl rfl) (cellB hS.ok 0 rfl rfl)) ?_
                                      | refine wl_gv (want_y rfl rfl rfl rfl (by rw [hg2_75]; rfl)) (x_load Try.underlying22 rfl (tmP rfl rfl) (cellB hS.ok 0 rfl (getm (by omega)))) ?_
                                     first
                                      | refine wl_gv (want_y rfl rfl rfl rfl (by rw [hg2_75]; rfl)) (x_bstr Try.underlying22 Try.underlying5 Try.underlying9 (tmS rfl rfl) (viewV hS.ok 4 rfl) (by first | assumption | exact Bytes.nil | (repeat' (first | assumption | exact Bytes.nil | exact be_bytes _ _ | apply Bytes.append | apply Bytes.take | apply Bytes.drop | apply Bytes.replicate))) (by first | rfl | assumption | (simp; done) | (simp; omega) | omega)) ?_
                                      | refine wl_gv (want_y rfl rfl rfl rfl (by rw [hg2_75]; rfl)) (x_bstr Try.underlying22 Try.underlying5 Try.underlying9 (tmS rfl rfl) (viewV hS.ok 5 rfl) (by first | assumption | exact Bytes.nil | (repeat' (first | assumption | exact Bytes.nil | exact be_bytes _ _ | apply Bytes.append | apply Bytes.take | apply Bytes.drop | apply Bytes.replicate))) (by first | rfl | assumption | (simp; done) | (simp; omega) | omega)) ?_
                                      | refine wl_gv (want_y rfl rfl rfl rfl (by rw [hg2_75]; rfl)) (x_bstr Try.underlying22 Try.underlying5 Try.underlying9 (tmS rfl rfl) View.nil_ (by first | assumption | exact Bytes.nil | (repeat' (first | assumption | exact Bytes.nil | exact be_bytes _ _ | apply Bytes.append | apply Bytes.take | apply Bytes.drop | apply Bytes.replicate))) (by first | rfl | assumption | (simp; done) | (simp; omega) | omega)) ?_
                                     refine wl_gv (want_y rfl rfl rfl rfl (by rw [hg2_75]; rfl)) (x_Geql (tmG rfl rfl) (tmG rfl rfl) (by first | assumption | exact Bytes.nil | (repeat' (first | assumption | exact Bytes.nil | exact be_bytes _ _ | apply Bytes.append | apply Bytes.take | apply Bytes.drop | apply Bytes.replicate))) (by first | assumption | exact Bytes.nil | (repeat' (first | assumption | exact Bytes.nil | exact be_bytes _ _ | apply Bytes.append | apply Bytes.take | apply Bytes.drop | apply Bytes.replicate)))) ?_
                                     refine wl_v (x_pickT (tmB rfl rfl) hg2_75 (tmB rfl rfl)) ?_
                                     refine wl_v (x_assign (tmB rfl rfl)) ?_
                                     refine wl_nil ?_
                                     refine then_n (hK3 _ _ ?_); clear hK3 K3
                                     refine wp_ret ?_
                                     refine ret1 rfl (.tmp rfl (show _ = Value.bool _ from rfl)) ?_
                                     exact ⟨by simp, hS.kp⟩
                                  have hg2_75' := hg2_75; (try simp only [nrm] at hg2_75'); try (exfalso; first | with_reducible exact absurd hg2_75 Bool.false_ne_true | with_reducible exact absurd hg2_75.symm Bool.false_ne_true | omega | (simp at hg2_75; done))
                                  all_goals
                                   refine wl_s rfl (want_n rfl rfl rfl rfl (by rw [hg2_75]; rfl)) ?_
                                   refine wl_s rfl (want_n rfl rfl rfl rfl (by rw [hg2_75]; rfl)) ?_
                                   refine wl_s rfl (want_n rfl rfl rfl rfl (by rw [hg2_75]; rfl)) ?_
                                   refine wl_s rfl (want_n rfl rfl rfl rfl (by rw [hg2_75]; rfl)) ?_
                                   refine wl_s rfl (want_n rfl rfl rfl rfl (by rw [hg2_75]; rfl)) ?_
                                   refine wl_s rfl (want_n rfl rfl rfl rfl (by rw [hg2_75]; rfl)) ?_
                                   refine wl_s rfl (want_n rfl rfl rfl rfl (by rw [hg2_75]; rfl)) ?_
                                   refine wl_v (x_pickF (tmB rfl rfl) hg2_75 ev_c) ?_
                                   refine wl_v (x_assign (tmB rfl rfl)) ?_
                                   refine wl_nil ?_
                                   refine then_n (hK3 _ _ ?_); clear hK3 K3
                                   refine wp_ret ?_
                                   refine ret1 rfl (.tmp rfl (show _ = Value.bool _ from rfl)) ?_
                                   exact ⟨by simp, hS.kp⟩
                               have hg2_68' := hg2_68; (try simp only [nrm] at hg2_68'); try (exfalso; first | with_reducible exact absurd hg2_68 Bool.false_ne_true | with_reducible exact absurd hg2_68.symm Bool.false_ne_true | omega | (simp at hg2_68; done))
                               all_goals
                                refine wl_s rfl (want_n rfl rfl rfl rfl (by rw [hg2_68]; rfl)) ?_
                                refine wl_s rfl (want_n rfl rfl rfl rfl (by rw [hg2_68]; rfl)) ?_
                                refine wl_s rfl (want_n rfl rfl rfl rfl (by rw [hg2_68]; rfl)) ?_
                                refine wl_s rfl (want_n rfl rfl rfl rfl (by rw [hg2_68]; rfl)) ?_
                                refine wl_s rfl (want_n rfl rfl rfl rfl (by rw [hg2_68]; rfl)) ?_
                                refine wl_v (x_pickF (tmB rfl rfl) hg2_68 ev_c) ?_
                                refine wl_v (x_move (tmB rfl rfl)) ?_
                                refine wl_s rfl (want_n rfl rfl rfl rfl rfl) ?_
                                refine wl_s rfl (want_n rfl rfl rfl rfl rfl) ?_
                                refine wl_s rfl (want_n rfl rfl rfl rfl rfl) ?_
                                refine wl_s rfl (want_n rfl rfl rfl rfl rfl) ?_
                                refine wl_s rfl (want_n rfl rfl rfl rfl rfl) ?_
                                refine wl_s rfl (want_n rfl rfl rfl rfl rfl) ?_
                                refine wl_s rfl (want_n rfl rfl rfl rfl rfl) ?_
                                refine wl_v (x_pickF (tmB rfl rfl) rfl ev_c) ?_
                                refine wl_v (x_assign (tmB rfl rfl)) ?_
                                refine wl_nil ?_
                                refine then_n (hK3 _ _ ?_); clear hK3 K3
                                refine wp_ret ?_
                                refine ret1 rfl (.tmp rfl (show _ = Value.bool _ from rfl)) ?_
                                exact ⟨by simp, hS.kp⟩
                            have hg2_61' := hg2_61; (try simp only [nrm] at hg2_61'); try (exfalso; first | with_reducible exact absurd hg2_61 Bool.false_ne_true | with_reducible exact absurd hg2_61.symm Bool.false_ne_true | omega | (simp at hg2_61; done))
                            all_goals
                             refine wl_s rfl (want_n rfl rfl rfl rfl (by rw [hg2_61]; rfl)) ?_
                             refine wl_s rfl (want_n rfl rfl rfl rfl (by rw [hg2_61]; rfl)) ?_
                             refine wl_s rfl (want_n rfl rfl rfl rfl (by rw [hg2_61]; rfl)) ?_
                             refine wl_s rfl (want_n rfl rfl rfl rfl (by rw [hg2_61]; rfl)) ?_
                             refine wl_s rfl (want_n rfl rfl rfl rfl (by rw [hg2_61]; rfl)) ?_
                             refine wl_v (x_pickF (tmB rfl rfl) hg2_61 ev_c) ?_
                             refine wl_v (x_move (tmB rfl rfl)) ?_
                             refine wl_s rfl (want_n rfl rfl rfl rfl rfl) ?_
                             refine wl_s rfl (want_n rfl rfl rfl rfl rfl) ?_
                             refine wl_s rfl (want_n rfl rfl rfl rfl rfl) ?_
                             refine wl_s rfl (want_n rfl rfl rfl rfl rfl) ?_
                             refine wl_s rfl (want_n rfl rfl rfl rfl rfl) ?_
                             refine wl_v (x_pickF (tmB rfl rfl) rfl ev_c) ?_
                             refine wl_v (x_move (tmB rfl rfl)) ?_
                             refine wl_s rfl (want_n rfl rfl rfl rfl rfl) ?_
                             refine wl_s rfl (want_n rfl rfl rfl rfl rfl) ?_
                             refine wl_s rfl (want_n rfl rfl rfl rfl rfl) ?_
                             refine wl_s rfl (want_n rfl rfl rfl rfl rfl) ?_
                             refine wl_s rfl (want_n rfl rfl rfl rfl rfl) ?_
                             refine wl_s rfl (want_n rfl rfl rfl rfl rfl) ?_
                             refine wl_s rfl (want_n rfl rfl rfl rfl rfl) ?_
                             refine wl_v (x_pickF (tmB rfl rfl) rfl ev_c) ?_
                             refine wl_v (x_assign (tmB rfl rfl)) ?_
                             refine wl_nil ?_
                             refine then_n (hK3 _ _ ?_); clear hK3 K3
                             refine wp_ret ?_
                             refine ret1 rfl (.tmp rfl (show _ = Value.bool _ from rfl)) ?_
                             exact ⟨by simp, hS.kp⟩
                         have hg2_54' := hg2_54; (try simp only [nrm] at hg2_54'); try (exfalso; first | with_reducible exact absurd hg2_54 Bool.false_ne_true | with_reducible exact absurd hg2_54.symm Bool.false_ne_true | omega | (simp at hg2_54; done))
                         all_goals
                          refine wl_s rfl (want_n rfl rfl rfl rfl (by rw [hg2_54]; rfl)) ?_
                          refine wl_s rfl (want_n rfl rfl rfl rfl (by rw [hg2_54]; rfl)) ?_
                          refine wl_s rfl (want_n rfl rfl rfl rfl (by rw [hg2_54]; rfl)) ?_
                          refine wl_s rfl (want_n rfl rfl rfl rfl (by rw [hg2_54]; rfl)) ?_
                          refine wl_s rfl (want_n rfl rfl rfl rfl (by rw [hg2_54]; rfl)) ?_
                          refine wl_v (x_pickF (tmB rfl rfl) hg2_54 ev_c) ?_
                          refine wl_v (x_move (tmB rfl rfl)) ?_
                          refine wl_s rfl (want_n rfl rfl rfl rfl rfl) ?_
                          refine wl_s rfl (want_n rfl rfl rfl rfl rfl) ?_
                          refine wl_s rfl (want_n rfl rfl rfl rfl rfl) ?_
                          refine wl_s rfl (want_n rfl rfl rfl rfl rfl) ?_
                          refine wl_s rfl (want_n rfl rfl rfl rfl rfl) ?_
                          refine wl_v (x_pickF (tmB rfl rfl) rfl ev_c) ?_
                          refine wl_v (x_move (tmB rfl rfl)) ?_
                          refine wl_s rfl (want_n rfl rfl rfl rfl rfl) ?_
                          refine wl_s rfl (want_n rfl rfl rfl rfl rfl) ?_
                          refine wl_s rfl (want_n rfl rfl rfl rfl rfl) ?_
                          refine wl_s rfl (want_n rfl rfl rfl rfl rfl) ?_
                          refine wl_s rfl (want_n rfl rfl rfl rfl rfl) ?_
                          refine wl_v (x_pickF (tmB rfl rfl) rfl ev_c) ?_
                          refine wl_v (x_move (tmB rfl rfl)) ?_
                          refine wl_s rfl (want_n rfl rfl rfl rfl rfl) ?_
                          refine wl_s rfl (want_n rfl rfl rfl rfl rfl) ?_
                          refine wl_s rfl (want_n rfl rfl rfl rfl rfl) ?_
                          refine wl_s rfl (want_n rfl rfl rfl rfl rfl) ?_
                          refine wl_s rfl (want_n rfl rfl rfl rfl rfl) ?_
                          refine wl_s rfl (want_n rfl rfl rfl rfl rfl) ?_
                          refine wl_s rfl (want_n rfl rfl rfl rfl rfl) ?_
                          refine wl_v (x_pickF (tmB rfl rfl) rfl ev_c) ?_
                          refine wl_v (x_assign (tmB rfl rfl)) ?_
                          refine wl_nil ?_
                          refine then_n (hK3 _ _ ?_); clear hK3 K3
                          refine wp_ret ?_
                          refine ret1 rfl (.tmp rfl (show _ = Value.bool _ from rfl)) ?_
                          exact ⟨by simp, hS.kp⟩
                      have hg2_47' := hg2_47; (try simp only [nrm] at hg2_47'); try (exfalso; first | with_reducible exact absurd hg2_47 Bool.false_ne_true | with_reducible exact absurd hg2_47.symm Bool.false_ne_true | omega | (simp at hg2_47; done))
                      all_goals
                       refine wl_s rfl (want_n rfl rfl rfl rfl (by rw [hg2_47]; rfl)) ?_
                       refine wl_s rfl (want_n rfl rfl rfl rfl (by rw [hg2_47]; rfl)) ?_
                       refine wl_s rfl (want_n rfl rfl rfl rfl (by rw [hg2_47]; rfl)) ?_
                       refine wl_s rfl (want_n rfl rfl rfl rfl (by rw [hg2_47]; rfl)) ?_
                       refine wl_s rfl (want_n rfl rfl rfl rfl (by rw [hg2_47]; rfl)) ?_
                       refine wl_v (x_pickF (tmB rfl rfl) hg2_47 ev_c) ?_
                       refine wl_v (x_move (tmB rfl rfl)) ?_
                       refine wl_s rfl (want_n rfl rfl rfl rfl rfl) ?_
                       refine wl_s rfl (want_n rfl rfl rfl rfl rfl) ?_
                       refine wl_s rfl (want_n rfl rfl rfl rfl rfl) ?_
                       refine wl_s rfl (want_n rfl rfl rfl rfl rfl) ?_
                       refine wl_s rfl (want_n rfl rfl rfl rfl rfl) ?_
                       refine wl_v (x_pickF (tmB rfl rfl) rfl ev_c) ?_
                       refine wl_v (x_move (tmB rfl rfl)) ?_
                       refine wl_s rfl (want_n rfl rfl rfl rfl rfl) ?_
                       refine wl_s rfl (want_n rfl rfl rfl rfl rfl) ?_
                       refine wl_s rfl (want_n rfl rfl rfl rfl rfl) ?_
                       refine wl_s rfl (want_n rfl rfl rfl rfl rfl) ?_
                       refine wl_s rfl (want_n rfl rfl rfl rfl rfl) ?_
                       refine wl_v (x_pickF (tmB rfl rfl) rfl ev_c) ?_
                       refine wl_v (x_move (tmB rfl rfl)) ?_
                       refine wl_s rfl (want_n rfl rfl rfl rfl rfl) ?_
                       refine wl_s rfl (want_n rfl rfl rfl rfl rfl) ?_
                       refine wl_s rfl (want_n rfl rfl rfl rfl rfl) ?_
                       refine wl_s rfl (want_n rfl rfl rfl rfl rfl) ?_
                       refine wl_s rfl (want_n rfl rfl rfl rfl rfl) ?_
                       refine wl_v (x_pickF (tmB rfl rfl) rfl ev_c) ?_
                       refine wl_v (x_move (tmB rfl rfl)) ?_
                       refine wl_s rfl (want_n rfl rfl rfl rfl rfl) ?_
                       refine wl_s rfl (want_n rfl rfl rfl rfl rfl) ?_
                       refine wl_s rfl (want_n rfl rfl rfl rfl rfl) ?_
                       refine wl_s rfl (want_n rfl rfl rfl rfl rfl) ?_
                       refine wl_s rfl (want_n rfl rfl rfl rfl rfl) ?_
                       refine wl_s rfl (want_n rfl rfl rfl rfl rfl) ?_
                       refine wl_s rfl (want_n rfl rfl rfl rfl rfl) ?_
                       refine wl_v (x_pickF (tmB rfl rfl) rfl ev_c) ?_
                       refine wl_v (x_assign (tmB rfl rfl)) ?_
                       refine wl_nil ?_
                       refine then_n (hK3 _ _ ?_); clear hK3 K3
                       refine wp_ret ?_
                       refine ret1 rfl (.tmp rfl (show _ = Value.bool _ from rfl)) ?_
                       exact ⟨by simp, hS.kp⟩
                   have hg2_40' := hg2_40; (try simp only [nrm] at hg2_40'); try (exfalso; first | with_reducible exact absurd hg2_40 Bool.false_ne_true | with_reducible exact absurd hg2_40.symm Bool.false_ne_true | omega | (simp at hg2_40; done))
                   all_goals
                    refine wl_s rfl (want_n rfl rfl rfl rfl (by rw [hg2_40]; rfl)) ?_
                    refine wl_s rfl (want_n rfl rfl rfl rfl (by rw [hg2_40]; rfl)) ?_
                    refine wl_s rfl (want_n rfl rfl rfl rfl (by rw [hg2_40]; rfl)) ?_
                    refine wl_s rfl (want_n rfl rfl rfl rfl (by rw [hg2_40]; rfl)) ?_
                    refine wl_s rfl (want_n rfl rfl rfl rfl (by rw [hg2_40]; rfl)) ?_
                    refine wl_v (x_pickF (tmB rfl rfl) hg2_40 ev_c) ?_
                    refine wl_v (x_move (tmB rfl rfl)) ?_
                    refine wl_s rfl (want_n rfl rfl rfl rfl rfl) ?_
                    refine wl_s rfl (want_n rfl rfl rfl rfl rfl) ?_
                    refine wl_s rfl (want_n rfl rfl rfl rfl rfl) ?_
                    refine wl_s rfl (want_n rfl rfl rfl rfl rfl) ?_
                    refine wl_s rfl (want_n rfl rfl rfl rfl rfl) ?_
                    refine wl_v (x_pickF (tmB rfl rfl) rfl ev_c) ?_
                    refine wl_v (x_move (tmB rfl rfl)) ?_
                    refine wl_s rfl (want_n rfl rfl rfl rfl rfl) ?_
                    refine wl_s rfl (want_n rfl rfl rfl rfl rfl) ?_
                    refine wl_s rfl (want_n rfl rfl rfl rfl rfl) ?_
                    refine wl_s rfl (want_n rfl rfl rfl rfl rfl) ?_
                    refine wl_s rfl (want_n rfl rfl rfl rfl rfl) ?_
                    refine wl_v (x_pickF (tmB rfl rfl) rfl ev_c) ?_
                    refine wl_v (x_move (tmB rfl rfl)) ?_
                    refine wl_s rfl (want_n rfl rfl rfl rfl rfl) ?_
                    refine wl_s rfl (want_n rfl rfl rfl rfl rfl) ?_
                    refine wl_s rfl (want_n rfl rfl rfl rfl rfl) ?_
                    refine wl_s rfl (want_n rfl rfl rfl rfl rfl) ?_
                    refine wl_s rfl (want_n rfl rfl rfl rfl rfl) ?_
                    refine wl_v (x_pickF (tmB rfl rfl) rfl ev_c) ?_
                    refine wl_v (x_move (tmB rfl rfl)) ?_
                    refine wl_s rfl (want_n rfl rfl rfl rfl rfl) ?_
                    refine wl_s rfl (want_n rfl rfl rfl rfl rfl) ?_
                    refine wl_s rfl (want_n rfl rfl rfl rfl rfl) ?_
                    refine wl_s rfl (want_n rfl rfl rfl rfl rfl) ?_
                    refine wl_s rfl (want_n rfl rfl rfl rfl rfl) ?_
                    refine wl_v (x_pickF (tmB rfl rfl) rfl ev_c) ?_
                    refine wl_v (x_move (tmB rfl rfl)) ?_
                    refine wl_s rfl (want_n rfl rfl rfl rfl rfl) ?_
                    refine wl_s rfl (want_n rfl rfl rfl rfl rfl) ?_
                    refine wl_s rfl (want_n rfl rfl rfl rfl rfl) ?_
                    refine wl_s rfl (want_n rfl rfl rfl rfl rfl) ?_
                    refine wl_s rfl (want_n rfl rfl rfl rfl rfl) ?_
                    refine wl_s rfl (want_n rfl rfl rfl rfl rfl) ?_
                    refine wl_s rfl (want_n rfl rfl rfl rfl rfl) ?_
                    refine wl_v (x_pickF (tmB rfl rfl) rfl ev_c) ?_
                    refine wl_v (x_assign (tmB rfl rfl)) ?_
                    refine wl_nil ?_
                    refine then_n (hK3 _ _ ?_); clear hK3 K3
                    refine wp_ret ?_
                    refine ret1 rfl (.tmp rfl (show _ = Value.bool _ from rfl)) ?_
                    exact ⟨by simp, hS.kp⟩
                have hg2_33' := hg2_33; (try simp only [nrm] at hg2_33'); try (exfalso; first | with_reducible exact absurd hg2_33 Bool.false_ne_true | with_reducible exact absurd hg2_33.symm Bool.false_ne_true | omega | (simp at hg2_33; done))
                all_goals
                 refine wl_s rfl (want_n rfl rfl rfl rfl (by rw [hg2_33]; rfl)) ?_
                 refine wl_s rfl (want_n rfl rfl rfl rfl (by rw [hg2_33]; rfl)) ?_
                 refine wl_s rfl (want_n rfl rfl rfl rfl (by rw [hg2_33]; rfl)) ?_
                 refine wl_s rfl (want_n rfl rfl rfl rfl (by rw [hg2_33]; rfl)) ?_
                 refine wl_s rfl (want_n rfl rfl rfl rfl (by rw [hg2_33]; rfl)) ?_
                 refine wl_v (x_pickF (tmB rfl rfl) hg2_33 ev_c) ?_
                 refine wl_v (x_move (tmB rfl rfl)) ?_
                 refine wl_s rfl (want_n rfl rfl rfl rfl rfl) ?_
                 refine wl_s rfl (want_n rfl rfl rfl rfl rfl) ?_
                 refine wl_s rfl (want_n rfl rfl rfl rfl rfl) ?_
                 refine wl_s rfl (want_n rfl rfl rfl rfl rfl) ?_
                 refine wl_s rfl (want_n rfl rfl rfl rfl rfl) ?_
                 refine wl_v (x_pickF (tmB rfl rfl) rfl ev_c) ?_
                 refine wl_v (x_move (tmB rfl rfl)) ?_
                 refine wl_s rfl (want_n rfl rfl rfl rfl rfl) ?_
                 refine wl_s rfl (want_n rfl rfl rfl rfl rfl) ?_
                 refine wl_s rfl (want_n rfl rfl rfl rfl rfl) ?_
                 refine wl_s rfl (want_n rfl rfl rfl rfl rfl) ?_
                 refine wl_s rfl (want_n rfl rfl rfl rfl rfl) ?_
                 refine wl_v (x_pickF (tmB rfl rfl) rfl ev_c) ?_
                 refine wl_v (x_move (tmB rfl rfl)) ?_
                 refine wl_s rfl (want_n rfl rfl rfl rfl rfl) ?_
                 refine wl_s rfl (want_n rfl rfl rfl rfl rfl) ?_
                 refine wl_s rfl (want_n rfl rfl rfl rfl rfl) ?_
                 refine wl_s rfl (want_n rfl rfl rfl rfl rfl) ?_
                 refine wl_s rfl (want_n rfl rfl rfl rfl rfl) ?_
                 refine wl_v (x_pickF (tmB rfl rfl) rfl ev_c) ?_
                 refine wl_v (x_move (tmB rfl rfl)) ?_
                 refine wl_s rfl (want_n rfl rfl rfl rfl rfl) ?_
                 refine wl_s rfl (want_n rfl rfl rfl rfl rfl) ?_
                 refine wl_s rfl (want_n rfl rfl rfl rfl rfl) ?_
                 refine wl_s rfl (want_n rfl rfl rfl rfl rfl) ?_
                 refine wl_s rfl (want_n rfl rfl rfl rfl rfl) ?_
                 refine wl_v (x_pickF (tmB rfl rfl) rfl ev_c) ?_
                 refine wl_v (x_move (tmB rfl rfl)) ?_
                 refine wl_s rfl (want_n rfl rfl rfl rfl rfl) ?_
                 refine wl_s rfl (want_n rfl rfl rfl rfl rfl) ?_
                 refine wl_s rfl (want_n rfl rfl rfl rfl rfl) ?_
                 refine wl_s rfl (want_n rfl rfl rfl rfl rfl) ?_
                 refine wl_s rfl (want_n rfl rfl rfl rfl rfl) ?_
                 refine wl_v (x_pickF (tmB rfl rfl) rfl ev_c) ?_
                 refine wl_v (x_move (tmB rfl rfl)) ?_
                 refine wl_s rfl (want_n rfl rfl rfl rfl rfl) ?_
                 refine wl_s rfl (want_n rfl rfl rfl rfl rfl) ?_
                 refine wl_s rfl (want_n rfl rfl rfl rfl rfl) ?_
                 refine wl_s rfl (want_n rfl rfl rfl rfl rfl) ?_
                 refine wl_s rfl (want_n rfl rfl rfl rfl rfl) ?_
                 refine wl_s rfl (want_n rfl rfl rfl rfl rfl) ?_
                 refine wl_s rfl (want_n rfl rfl rfl rfl rfl) ?_
                 refine wl_v (x_pickF (tmB rfl rfl) rfl ev_c) ?_
                 refine wl_v (x_assign (tmB rfl rfl)) ?_
                 refine wl_nil ?_
                 refine then_n (hK3 _ _ ?_); clear hK3 K3
                 refine wp_ret ?_
                 refine ret1 rfl (.tmp rfl (show _ = Value.bool _ from rfl)) ?_
                 exact ⟨by simp, hS.kp⟩
             have hg2_26' := hg2_26; (try simp only [nrm] at hg2_26'); try (exfalso; first | with_reducible exact absurd hg2_26 Bool.false_ne_true | with_reducible exact absurd hg2_26.symm Bool.false_ne_true | omega | (simp at hg2_26; done))
             all_goals
              refine wl_s rfl (want_n rfl rfl rfl rfl (by rw [hg2_26]; rfl)) ?_
              refine wl_s rfl (want_n rfl rfl rfl rfl (by rw [hg2_26]; rfl)) ?_
              refine wl_s rfl (want_n rfl rfl rfl rfl (by rw [hg2_26]; rfl)) ?_
              refine wl_s rfl (want_n rfl rfl rfl rfl (by rw [hg2_26]; rfl)) ?_
              refine wl_s rfl (want_n rfl rfl rfl rfl (by rw [hg2_26]; rfl)) ?_
              refine wl_v (x_pickF (tmB rfl rfl) hg2_26 ev_c) ?_
              refine wl_v (x_move (tmB rfl rfl)) ?_
              refine wl_s rfl (want_n rfl rfl rfl rfl rfl) ?_
              refine wl_s rfl (want_n rfl rfl rfl rfl rfl) ?_
              refine wl_s rfl (want_n rfl rfl rfl rfl rfl) ?_
              refine wl_s rfl (want_n rfl rfl rfl rfl rfl) ?_
              refine wl_s rfl (want_n rfl rfl rfl rfl rfl) ?_
              refine wl_v (x_pickF (tmB rfl rfl) rfl ev_c) ?_
              refine wl_v (x_move (tmB rfl rfl)) ?_
              refine wl_s rfl (want_n rfl rfl rfl rfl rfl) ?_
              refine wl_s rfl (want_n rfl rfl rfl rfl rfl) ?_
              refine wl_s rfl (want_n rfl rfl rfl rfl rfl) ?_
              refine wl_s rfl (want_n rfl rfl rfl rfl rfl) ?_
              refine wl_s rfl (want_n rfl rfl rfl rfl rfl) ?_
              refine wl_v (x_pickF (tmB rfl rfl) rfl ev_c) ?_
              refine wl_v (x_move (tmB rfl rfl)) ?_
              refine wl_s rfl (want_n rfl rfl rfl rfl rfl) ?_
              refine wl_s rfl (want_n rfl rfl rfl rfl rfl) ?_
              refine wl_s rfl (want_n rfl rfl rfl rfl rfl) ?_
              refine wl_s rfl (want_n rfl rfl rfl rfl rfl) ?_
              refine wl_s rfl (want_n rfl rfl rfl rfl rfl) ?_
              refine wl_v (x_pickF (tmB rfl rfl) rfl ev_c) ?_
              refine wl_v (x_move (tmB rfl rfl)) ?_
              refine wl_s rfl (want_n rfl rfl rfl rfl rfl) ?_
              refine wl_s rfl (want_n rfl rfl rfl rfl rfl) ?_
              refine wl_s rfl (want_n rfl rfl rfl rfl rfl) ?_
              refine wl_s rfl (want_n rfl rfl rfl rfl rfl) ?_
              refine wl_s rfl (want_n rfl rfl rfl rfl rfl) ?_
              refine wl_v (x_pickF (tmB rfl rfl) rfl ev_c) ?_
              refine wl_v (x_move (tmB rfl rfl)) ?_
              refine wl_s rfl (want_n rfl rfl rfl rfl rfl) ?_
              refine wl_s rfl (want_n rfl rfl rfl rfl rfl) ?_
              refine wl_s rfl (want_n rfl rfl rfl rfl rfl) ?_
              refine wl_s rfl (want_n rfl rfl rfl rfl rfl) ?_
              refine wl_s rfl (want_n rfl rfl rfl rfl rfl) ?_
              refine wl_v (x_pickF (tmB rfl rfl) rfl ev_c) ?_
              refine wl_v (x_move (tmB rfl rfl)) ?_
              refine wl_s rfl (want_n rfl rfl rfl rfl rfl) ?_
              refine wl_s rfl (want_n rfl rfl rfl rfl rfl) ?_
              refine wl_s rfl (want_n rfl rfl rfl rfl rfl) ?_
              refine wl_s rfl (want_n rfl rfl rfl rfl rfl) ?_
              refine wl_s rfl (want_n rfl rfl rfl rfl rfl) ?_
              refine wl_v (x_pickF (tmB rfl rfl) rfl ev_c) ?_
              refine wl_v (x_move (tmB rfl rfl)) ?_
              refine wl_s rfl (want_n rfl rfl rfl rfl rfl) ?_
              refine wl_s rfl (want_n rfl rfl rfl rfl rfl) ?_
              refine wl_s rfl (want_n rfl rfl rfl rfl rfl) ?_
              refine wl_s rfl (want_n rfl rfl rfl rfl rfl) ?_
              refine wl_s rfl (want_n rfl rfl rfl rfl rfl) ?_
              refine wl_s rfl (want_n rfl rfl rfl rfl rfl) ?_
              refine wl_s rfl (want_n rfl rfl rfl rfl rfl) ?_
              refine wl_v (x_pickF (tmB rfl rfl) rfl ev_c) ?_
              refine wl_v (x_assign (tmB rfl rfl)) ?_
              refine wl_nil ?_
              refine then_n (hK3 _ _ ?_); clear hK3 K3
              refine wp_ret ?_
              refine ret1 rfl (.tmp rfl (show _ = Value.bool _ from rfl)) ?_
              exact ⟨by simp, hS.kp⟩
          have hg2_19' := hg2_19; (try simp only [nrm] at hg2_19'); try (exfalso; first | with_reducible exact absurd hg2_19 Bool.false_ne_true | with_reducible exact absurd hg2_19.symm Bool.false_ne_true | omega | (simp at hg2_19; done))
          all_goals
           refine wl_s rfl (want_n rfl rfl rfl rfl (by rw [hg2_19]; rfl)) ?_
           refine wl_s rfl (want_n rfl rfl rfl rfl (by rw [hg2_19]; rfl)) ?_
           refine wl_s rfl (want_n rfl rfl rfl rfl (by rw [hg2_19]; rfl)) ?_
           refine wl_s rfl (want_n rfl rfl rfl rfl (by rw [hg2_19]; rfl)) ?_
           refine wl_s rfl (want_n rfl rfl rfl rfl (by rw [hg2_19]; rfl)) ?_
           refine wl_v (x_pickF (tmB rfl rfl) hg2_19 ev_c) ?_
           refine wl_v (x_move (tmB rfl rfl)) ?_
           refine wl_s rfl (want_n rfl rfl rfl rfl rfl) ?_
           refine wl_s rfl (want_n rfl rfl rfl rfl rfl) ?_
           refine wl_s rfl (want_n rfl rfl rfl rfl rfl) ?_
           refine wl_s rfl (want_n rfl rfl rfl rfl rfl) ?_
           refine wl_s rfl (want_n rfl rfl rfl rfl rfl) ?_
           refine wl_v (x_pickF (tmB rfl rfl) rfl ev_c) ?_
           refine wl_v (x_move (tmB rfl rfl)) ?_
           refine wl_s rfl (want_n rfl rfl rfl rfl rfl) ?_
           refine wl_s rfl (want_n rfl rfl rfl rfl rfl) ?_
           refine wl_s rfl (want_n rfl rfl rfl rfl rfl) ?_
           refine wl_s rfl (want_n rfl rfl rfl rfl rfl) ?_
           refine wl_s rfl (want_n rfl rfl rfl rfl rfl) ?_
           refine wl_v (x_pickF (tmB rfl rfl) rfl ev_c) ?_
           refine wl_v (x_move (tmB rfl rfl)) ?_
           refine wl_s rfl (want_n rfl rfl rfl rfl rfl) ?_
           refine wl_s rfl (want_n rfl rfl rfl rfl rfl) ?_
           refine wl_s rfl (want_n rfl rfl rfl rfl rfl) ?_
           refine wl_s rfl (want_n rfl rfl rfl rfl rfl) ?_
           refine wl_s rfl (want_n rfl rfl rfl rfl rfl) ?_
           refine wl_v (x_pickF (tmB rfl rfl) rfl ev_c) ?_
           refine wl_v (x_move (tmB rfl rfl)) ?_
           refine wl_s rfl (want_n rfl rfl rfl rfl rfl) ?_
           refine wl_s rfl (want_n rfl rfl rfl rfl rfl) ?_
           refine wl_s rfl (want_n rfl rfl rfl rfl rfl) ?_
           refine wl_s rfl (want_n rfl rfl rfl rfl rfl) ?_
           refine wl_s rfl (want_n rfl rfl rfl rfl rfl) ?_
           refine wl_v (x_pickF (tmB rfl rfl) rfl ev_c) ?_
           refine wl_v (x_move (tmB rfl rfl)) ?_
           refine wl_s rfl (want_n rfl rfl rfl rfl rfl) ?_
           refine wl_s rfl (want_n rfl rfl rfl rfl rfl) ?_
           refine wl_s rfl (want_n rfl rfl rfl rfl rfl) ?_
           refine wl_s rfl (want_n rfl rfl rfl rfl rfl) ?_
           refine wl_s rfl (want_n rfl rfl rfl rfl rfl) ?_
           refine wl_v (x_pickF (tmB rfl rfl) rfl ev_c) ?_
           refine wl_v (x_move (tmB rfl rfl)) ?_
           refine wl_s rfl (want_n rfl rfl rfl rfl rfl) ?_
           refine wl_s rfl (want_n rfl rfl rfl rfl rfl) ?_
           refine wl_s rfl (want_n rfl rfl rfl rfl rfl) ?_
           refine wl_s rfl (want_n rfl rfl rfl rfl rfl) ?_
           refine wl_s rfl (want_n rfl rfl rfl rfl rfl) ?_
           refine wl_v (x_pickF (tmB rfl rfl) rfl ev_c) ?_
           refine wl_v (x_move (tmB rfl rfl)) ?_
           refine wl_s rfl (want_n rfl rfl rfl rfl rfl) ?_
           refine wl_s rfl (want_n rfl rfl rfl rfl rfl) ?_
           refine wl_s rfl (want_n rfl rfl rfl rfl rfl) ?_
           refine wl_s rfl (want_n rfl rfl rfl rfl rfl) ?_
           refine wl_s rfl (want_n rfl rfl rfl rfl rfl) ?_
           refine wl_v (x_pickF (tmB rfl rfl) rfl ev_c) ?_
           refine wl_v (x_move (tmB rfl rfl)) ?_
           refine wl_s rfl (want_n rfl rfl rfl rfl rfl) ?_
           refine wl_s rfl (want_n rfl rfl rfl rfl rfl) ?_
           refine wl_s rfl (want_n rfl rfl rfl rfl rfl) ?_
           refine wl_s rfl (want_n rfl rfl rfl rfl rfl) ?_
           refine wl_s rfl (want_n rfl rfl rfl rfl rfl) ?_
           refine wl_s rfl (want_n rfl rfl rfl rfl rfl) ?_
           refine wl_s rfl (want_n rfl rfl rfl rfl rfl) ?_
           refine wl_v (x_pickF (tmB rfl rfl) rfl ev_c) ?_
           refine wl_v (x_assign (tmB rfl rfl)) ?_
           refine wl_nil ?_
           refine then_n (hK3 _ _ ?_); clear hK3 K3
           refine wp_ret ?_
           refine ret1 rfl (.tmp rfl (show _ = Value.bool _ from rfl)) ?_
           exact ⟨by simp, hS.kp⟩
       have hg2_12' := hg2_12; (try simp only [nrm] at hg2_12'); try (exfalso; first | with_reducible exact absurd hg2_12 Bool.false_ne_true | with_reducible exact absurd hg2_12.symm Bool.false_ne_true | omega | (simp at hg2_12; done))
       all_goals
        refine wl_s rfl (want_n rfl rfl rfl rfl (by rw [hg2_12]; rfl)) ?_
        refine wl_s rfl (want_n rfl rfl rfl rfl (by rw [hg2_12]; rfl)) ?_
        refine wl_s rfl (want_n rfl rfl rfl rfl (by rw [hg2_12]; rfl)) ?_
        refine wl_s rfl (want_n rfl rfl rfl rfl (by rw [hg2_12]; rfl)) ?_
        refine wl_s rfl (want_n rfl rfl rfl rfl (by rw [hg2_12]; rfl)) ?_
        refine wl_v (x_pickF (tmB rfl rfl) hg2_12 ev_c) ?_
        refine wl_v (x_move (tmB rfl rfl)) ?_
        refine wl_s rfl (want_n rfl rfl rfl rfl rfl) ?_
        refine wl_s rfl (want_n rfl rfl rfl rfl rfl) ?_
        refine wl_s rfl (want_n rfl rfl rfl rfl rfl) ?_
        refine wl_s rfl (want_n rfl rfl rfl rfl rfl) ?_
        refine wl_s rfl (want_n rfl rfl rfl rfl rfl) ?_
        refine wl_v (x_pickF (tmB rfl rfl) rfl ev_c) ?_
        refine wl_v (x_move (tmB rfl rfl)) ?_
        refine wl_s rfl (want_n rfl rfl rfl rfl rfl) ?_
        refine wl_s rfl (want_n rfl rfl rfl rfl rfl) ?_
        refine wl_s rfl (want_n rfl rfl rfl rfl rfl) ?_
        refine wl_s rfl (want_n rfl rfl rfl rfl rfl) ?_
        refine wl_s rfl (want_n rfl rfl rfl rfl rfl) ?_
        refine wl_v (x_pickF (tmB rfl rfl) rfl ev_c) ?_
        refine wl_v (x_move (tmB rfl rfl)) ?_
        refine wl_s rfl (want_n rfl rfl rfl rfl rfl) ?_
        refine wl_s rfl (want_n rfl rfl rfl rfl rfl) ?_
        refine wl_s rfl (want_n rfl rfl rfl rfl rfl) ?_
        refine wl_s rfl (want_n rfl rfl rfl rfl rfl) ?_
        refine wl_s rfl (want_n rfl rfl rfl rfl rfl) ?_
        refine wl_v (x_pickF (tmB rfl rfl) rfl ev_c) ?_
        refine wl_v (x_move (tmB rfl rfl)) ?_
        refine wl_s rfl (want_n rfl rfl rfl rfl rfl) ?_
        refine wl_s rfl (want_n rfl rfl rfl rfl rfl) ?_
        refine wl_s rfl (want_n rfl rfl rfl rfl rfl) ?_
        refine wl_s rfl (want_n rfl rfl rfl rfl rfl) ?_
        refine wl_s rfl (want_n rfl rfl rfl rfl rfl) ?_
        refine wl_v (x_pickF (tmB rfl rfl) rfl ev_c) ?_
        refine wl_v (x_move (tmB rfl rfl)) ?_
        refine wl_s rfl (want_n rfl rfl rfl rfl rfl) ?_
        refine wl_s rfl (want_n rfl rfl rfl rfl rfl) ?_
        refine wl_s rfl (want_n rfl rfl rfl rfl rfl) ?_
        refine wl_s rfl (want_n rfl rfl rfl rfl rfl) ?_
        refine wl_s rfl (want_n rfl rfl rfl rfl rfl) ?_
        refine wl_v (x_pickF (tmB rfl rfl) rfl ev_c) ?_
        refine wl_v (x_move (tmB rfl rfl)) ?_
        refine wl_s rfl (want_n rfl rfl rfl rfl rfl) ?_
        refine wl_s rfl (want_n rfl rfl rfl rfl rfl) ?_
        refine wl_s rfl (want_n rfl rfl rfl rfl rfl) ?_
        refine wl_s rfl (want_n rfl rfl rfl rfl rfl) ?_
        refine wl_s rfl (want_n rfl rfl rfl rfl rfl) ?_
        refine wl_v (x_pickF (tmB rfl rfl) rfl ev_c) ?_
        refine wl_v (x_move (tmB rfl rfl)) ?_
        refine wl_s rfl (want_n rfl rfl rfl rfl rfl) ?_
        refine wl_s rfl (want_n rfl rfl rfl rfl rfl) ?_
        refine wl_s rfl (want_n rfl rfl rfl rfl rfl) ?_
        refine wl_s rfl (want_n rfl rfl rfl rfl rfl) ?_
        refine wl_s rfl (want_n rfl rfl rfl rfl rfl) ?_
        refine wl_v (x_pickF (tmB rfl rfl) rfl ev_c) ?_
        refine wl_v (x_move (tmB rfl rfl)) ?_
        refine wl_s rfl (want_n rfl rfl rfl rfl rfl) ?_
        refine wl_s rfl (want_n rfl rfl rfl rfl rfl) ?_
        refine wl_s rfl (want_n rfl rfl rfl rfl rfl) ?_
        refine wl_s rfl (want_n rfl rfl rfl rfl rfl) ?_
        refine wl_s rfl (want_n rfl rfl rfl rfl rfl) ?_
        refine wl_v (x_pickF (tmB rfl rfl) rfl ev_c) ?_
        refine wl_v (x_move (tmB rfl rfl)) ?_
        refine wl_s rfl (want_n rfl rfl rfl rfl rfl) ?_
        refine wl_s rfl (want_n rfl rfl rfl rfl rfl) ?_
        refine wl_s rfl (want_n rfl rfl rfl rfl rfl) ?_
        refine wl_s rfl (want_n rfl rfl rfl rfl rfl) ?_
        refine wl_s rfl (want_n rfl rfl rfl rfl rfl) ?_
        refine wl_s rfl (want_n rfl rfl rfl rfl rfl) ?_
        refine wl_s rfl (want_n rfl rfl rfl rfl rfl) ?_
        refine wl_v (x_pickF (tmB rfl rfl) rfl ev_c) ?_
        refine wl_v (x_assign (tmB rfl rfl)) ?_
        refine wl_nil ?_
        refine then_n (hK3 _ _ ?_); clear hK3 K3
        refine wp_ret ?_
        refine ret1 rfl (.tmp rfl (show _ = Value.bool _ from rfl)) ?_
        exact ⟨by simp, hS.kp⟩
    have hg2_5' := hg2_5; (try simp only [nrm] at hg2_5'); try (exfalso; first | with_reducible exact absurd hg2_5 Bool.false_ne_true | with_reducible exact absurd hg2_5.symm Bool.false_ne_true | omega | (simp at hg2_5; done))
    all_goals
     refine wl_s rfl (want_n rfl rfl rfl rfl (by rw [hg2_5]; rfl)) ?_
     refine wl_s rfl (want_n rfl rfl rfl rfl (by rw [hg2_5]; rfl)) ?_
     refine wl_s rfl (want_n rfl rfl rfl rfl (by rw [hg2_5]; rfl)) ?_
     refine wl_s rfl (want_n rfl rfl rfl rfl (by rw [hg2_5]; rfl)) ?_
     refine wl_s rfl (want_n rfl rfl rfl rfl (by rw [hg2_5]; rfl)) ?_
     refine wl_v (x_pickF (tmB rfl rfl) hg2_5 ev_c) ?_
     refine wl_v (x_move (tmB rfl rfl)) ?_
     refine wl_s rfl (want_n rfl rfl rfl rfl rfl) ?_
     refine wl_s rfl (want_n rfl rfl rfl rfl rfl) ?_
     refine wl_s rfl (want_n rfl rfl rfl rfl rfl) ?_
     refine wl_s rfl (want_n rfl rfl rfl rfl rfl) ?_
     refine wl_s rfl (want_n rfl rfl rfl rfl rfl) ?_
     refine wl_v (x_pickF (tmB rfl rfl) rfl ev_c) ?_
     refine wl_v (x_move (tmB rfl rfl)) ?_
     refine wl_s rfl (want_n rfl rfl rfl rfl rfl) ?_
     refine wl_s rfl (want_n rfl rfl rfl rfl rfl) ?_
     refine wl_s rfl (want_n rfl rfl rfl rfl rfl) ?_
     refine wl_s rfl (want_n rfl rfl rfl rfl rfl) ?_
     refine wl_s rfl (want_n rfl rfl rfl rfl rfl) ?_
     refine wl_v (x_pickF (tmB rfl rfl) rfl ev_c) ?_
     refine wl_v (x_move (tmB rfl rfl)) ?_
     refine wl_s rfl (want_n rfl rfl rfl rfl rfl) ?_
     refine wl_s rfl (want_n rfl rfl rfl rfl rfl) ?_
     refine wl_s rfl (want_n rfl rfl rfl rfl rfl) ?_
     refine wl_s rfl (want_n rfl rfl rfl rfl rfl) ?_
     refine wl_s rfl (want_n rfl rfl rfl rfl rfl) ?_
     refine wl_v (x_pickF (tmB rfl rfl) rfl ev_c) ?_
     refine wl_v (x_move (tmB rfl rfl)) ?_
     refine wl_s rfl (want_n rfl rfl rfl rfl rfl) ?_
     refine wl_s rfl (want_n rfl rfl rfl rfl rfl) ?_
     refine wl_s rfl (want_n rfl rfl rfl rfl rfl) ?_
     refine wl_s rfl (want_n rfl rfl rfl rfl rfl) ?_
     refine wl_s rfl (want_n rfl rfl rfl rfl rfl) ?_
     refine wl_v (x_pickF (tmB rfl rfl) rfl ev_c) ?_
     refine wl_v (x_move (tmB rfl rfl)) ?_
     refine wl_s rfl (want_n rfl rfl rfl rfl rfl) ?_
     refine wl_s rfl (want_n rfl rfl rfl rfl rfl) ?_
     refine wl_s rfl (want_n rfl rfl rfl rfl rfl) ?_
     refine wl_s rfl (want_n rfl rfl rfl rfl rfl) ?_
     refine wl_s rfl (want_n rfl rfl rfl rfl rfl) ?_
     refine wl_v (x_pickF (tmB rfl rfl) rfl ev_c) ?_
     refine wl_v (x_move (tmB rfl rfl)) ?_
     refine wl_s rfl (want_n rfl rfl rfl rfl rfl) ?_
     refine wl_s rfl (want_n rfl rfl rfl rfl rfl) ?_
     refine wl_s rfl (want_n rfl rfl rfl rfl rfl) ?_
     refine wl_s rfl (want_n rfl rfl rfl rfl rfl) ?_
     refine wl_s rfl (want_n rfl rfl rfl rfl rfl) ?_
     refine wl_v (x_pickF (tmB rfl rfl) rfl ev_c) ?_
     refine wl_v (x_move (tmB rfl rfl)) ?_
     refine wl_s rfl (want_n rfl rfl rfl rfl rfl) ?_
     refine wl_s rfl (want_n rfl rfl rfl rfl rfl) ?_
     refine wl_s rfl (want_n rfl rfl rfl rfl rfl) ?_
     refine wl_s rfl (want_n rfl rfl rfl rfl rfl) ?_
     refine wl_s rfl (want_n rfl rfl rfl rfl rfl) ?_
     refine wl_v (x_pickF (tmB rfl rfl) rfl ev_c) ?_
     refine wl_v (x_move (tmB rfl rfl)) ?_
     refine wl_s rfl (want_n rfl rfl rfl rfl rfl) ?_
     refine wl_s rfl (want_n rfl rfl rfl rfl rfl) ?_
     refine wl_s rfl (want_n rfl rfl rfl rfl rfl) ?_
     refine wl_s rfl (want_n rfl rfl rfl rfl rfl) ?_
     refine wl_s rfl (want_n rfl rfl rfl rfl rfl) ?_
     refine wl_v (x_pickF (tmB rfl rfl) rfl ev_c) ?_
     refine wl_v (x_move (tmB rfl rfl)) ?_
     refine wl_s rfl (want_n rfl rfl rfl rfl rfl) ?_
     refine wl_s rfl (want_n rfl rfl rfl rfl rfl) ?_
     refine wl_s rfl (want_n rfl rfl rfl rfl rfl) ?_
     refine wl_s rfl (want_n rfl rfl rfl rfl rfl) ?_
     refine wl_s rfl (want_n rfl rfl rfl rfl rfl) ?_
     refine wl_v (x_pickF (tmB rfl rfl) rfl ev_c) ?_
     refine wl_v (x_move (tmB rfl rfl)) ?_
     refine wl_s rfl (want_n rfl rfl rfl rfl rfl) ?_
     refine wl_s rfl (want_n rfl rfl rfl rfl rfl) ?_
     refine wl_s rfl (want_n rfl rfl rfl rfl rfl) ?_
     refine wl_s rfl (want_n rfl rfl rfl rfl rfl) ?_
     refine wl_s rfl (want_n rfl rfl rfl rfl rfl) ?_
     refine wl_s rfl (want_n rfl rfl rfl rfl rfl) ?_
     refine wl_s rfl (want_n rfl rfl rfl rfl rfl) ?_
     refine wl_v (x_pickF (tmB rfl rfl) rfl ev_c) ?_
     refine wl_v (x_assign (tmB rfl rfl)) ?_
     refine wl_nil ?_
     refine then_n (hK3 _ _ ?_); clear hK3 K3
     refine wp_ret ?_
     refine ret1 rfl (.tmp rfl (show _ = Value.bool _ from rfl)) ?_
     exact ⟨by simp, hS.kp⟩
  · intro K hK
    refine ow_alloc hS tz_33 rfl ?_
    clear hS; intro g1_3 w hg1_3 hS
    refine hK _ _ ?_; clear hK K
    refine rg_step 2 rfl (by kernel_rfl) (want_0) (oks_drop hS 1 rfl) ?_; intro K hK
    refine ow_alloc hS tz_33 rfl ?_
    clear hS; intro g1_2 w hg1_2 hS
    refine hK _ _ ?_; clear hK K
    refine rg_step 4 rfl (by kernel_rfl) (want_0) (oks_drop hS 2 rfl) ?_; intro K hK
    refine ow_storeA hS 0 rfl ts_33 (tmP rfl rfl) (tmA rfl rfl) rfl rfl rfl ?_
    clear hS; intro w hS
    try replace hS := St.nm (M' := [.blk _ _ [_, _, _, _, _, _, _, _, _, _, _, _, _, _, _, _], .blk _ _ [_, _, _, _, _, _, _, _, _, _, _, _, _, _, _, _], .blk _ _ [_, _, _, _, _, _, _, _, _, _, _, _, _, _, _, _], .blk _ _ [_, _, _, _, _, _, _, _, _, _, _, _, _, _, _, _], .vw _ _, .vw _ _]) hS rfl
    refine hK _ _ ?_; clear hK K
    refine rg_step 5 rfl (by kernel_rfl) (want_0) (oks_drop hS 2 rfl) ?_; intro K hK
    refine ow_storeA hS 1 rfl ts_33 (tmP rfl rfl) (tmA rfl rfl) rfl rfl rfl ?_
    clear hS; intro w hS
    try replace hS := St.nm (M' := [.blk _ _ [_, _, _, _, _, _, _, _, _, _, _, _, _, _, _, _], .blk _ _ [_, _, _, _, _, _, _, _, _, _, _, _, _, _, _, _], .blk _ _ [_, _, _, _, _, _, _, _, _, _, _, _, _, _, _, _], .blk _ _ [_, _, _, _, _, _, _, _, _, _, _, _, _, _, _, _], .vw _ _, .vw _ _]) hS rfl
    refine hK _ _ ?_; clear hK K
    refine rg_done (oks_drop hS 2 rfl) (by kernel_rfl) ?_
    refine then_n (hK2 _ _ ?_); clear hK2 K2
    refine wp_seq_k ?_; intro K4 hK4
    refine wlit ?_
    refine wl_v (x_fa 0 Try.underlying33 rfl rfl ts_5 (tmP rfl rfl)) ?_
    first
     | refine wl_v (x_load Try.underlying5 rfl (tmP rfl rfl) (cellB hS.ok 0 rfl rfl)) ?_
     | refine wl_v (x_load Try.underlying5 rfl (tmP rfl rfl) (cellB hS.ok 0 rfl (getm (by omega)))) ?_
    refine wl_v (x_fa 0 Try.underlying33 rfl rfl ts_5 (tmP rfl rfl)) ?_
    first
     | refine wl_v (x_load Try.underlying5 rfl (tmP rfl rfl) (cellB hS.ok 1 rfl rfl)) ?_
     | refine wl_v (x_load Try.underlying5 rfl (tmP rfl rfl) (cellB hS.ok 1 rfl (getm (by omega)))) ?_
    refine wl_v (x_eql (tmI rfl rfl) (tmI rfl rfl)) ?_
    refine wl_v (x_move (tmB rfl rfl)) ?_
    refine gs_wl (tm (t := 14) rfl) (fun hg2_5 => ?_) (fun hg2_5 => ?_)
    · have hg2_5' := hg2_5; (try simp only [nrm] at hg2_5'); try (exfalso; first | with_reducible exact absurd hg2_5 Bool.false_ne_true | with_reducible exact absurd hg2_5.symm Bool.false_ne_true | omega | (simp at hg2_5; done))
      all_goals
       refine wl_gv (want_y rfl rfl rfl rfl (by rw [hg2_5]; rfl)) (x_fa 1 Try.underlying33 rfl rfl ts_3 (tmP rfl rfl)) ?_
       first
        | refine wl_gv (want_y rfl rfl rfl rfl (by rw [hg2_5]; rfl)) (x_load Try.underlying3 rfl (tmP rfl rfl) (cellB hS.ok 0 rfl rfl)) ?_
        | refine wl_gv (want_y rfl rfl rfl rfl (by rw [hg2_5]; rfl)) (x_load Try.underlying3 rfl (tmP rfl rfl) (cellB hS.ok 0 rfl (getm (by omega)))) ?_
       refine wl_gv (want_y rfl rfl rfl rfl (by rw [hg2_5]; rfl)) (x_fa 1 Try.underlying33 rfl rfl ts_3 (tmP rfl rfl)) ?_
       first
        | refine wl_gv (want_y rfl rfl rfl rfl (by rw [hg2_5]; rfl)) (x_load Try.underlying3 rfl (tmP rfl rfl) (cellB hS.ok 1 rfl rfl)) ?_
        | refine wl_gv (want_y rfl rfl rfl rfl (by rw [hg2_5]; rfl)) (x_load Try.underlying3 rfl (tmP rfl rfl) (cellB hS.ok 1 rfl (getm (by omega)))) ?_
       refine wl_gv (want_y rfl rfl rfl rfl (by rw [hg2_5]; rfl)) (x_eql (tmI rfl rfl) (tmI rfl rfl)) ?_
       refine wl_v (x_pickT (tmB rfl rfl) hg2_5 (tmB rfl rfl)) ?_
       refine wl_v (x_move (tmB rfl rfl)) ?_
       refine gs_wl (tm (t := 21) rfl) (fun hg2_12 => ?_) (fun hg2_12 => ?_)
       · have hg2_12' := hg2_12; (try simp only [nrm] at hg2_12'); try (exfalso; first | with_reducible exact absurd hg2_12 Bool.false_ne_true | with_reducible exact absurd hg2_12.symm Bool.false_ne_true | omega | (simp at hg2_12; done))
         all_goals
          refine wl_gv (want_y rfl rfl rfl rfl (by rw [hg2_12]; rfl)) (x_fa 2 Try.underlying33 rfl rfl ts_24 (tmP rfl rfl)) ?_
          first
           | refine wl_gv (want_y rfl rfl rfl rfl (by rw [hg2_12]; rfl)) (x_load Try.underlying24 rfl (tmP rfl rfl) (cellB hS.ok 0 rfl rfl)) ?_
           | refine wl_gv (want_y rfl rfl rfl rfl (by rw [hg2_12]; rfl)) (x_load Try.underlying24 rfl (tmP rfl rfl) (cellB hS.ok 0 rfl (getm (by omega)))) ?_
          refine wl_gv (want_y rfl rfl rfl rfl (by rw [hg2_12]; rfl)) (x_fa 2 Try.underlying33 rfl rfl ts_24 (tmP rfl rfl)) ?_
          first
           | refine wl_gv (want_y rfl rfl rfl rfl (by rw [hg2_12]; rfl)) (x_load Try.underlying24 rfl (tmP rfl rfl) (cellB hS.ok 1 rfl rfl)) ?_
           | refine wl_gv (want_y rfl rfl rfl rfl (by rw [hg2_12]; rfl)) (x_load Try.underlying24 rfl (tmP rfl rfl) (cellB hS.ok 1 rfl (getm (by omega)))) ?_
          refine wl_gv (want_y rfl rfl rfl rfl (by rw [hg2_12]; rfl)) (x_eql (tmI rfl rfl) (tmI rfl rfl)) ?_
          refine wl_v (x_pickT (tmB rfl rfl) hg2_12 (tmB rfl rfl)) ?_
          refine wl_v (x_move (tmB rfl rfl)) ?_
          refine gs_wl (tm (t := 28) rfl) (fun hg2_19 => ?_) (fun hg2_19 => ?_)
          · have hg2_19' := hg2_19; (try simp only [nrm] at hg2_19'); try (exfalso; first | with_reducible exact absurd hg2_19 Bool.false_ne_true | with_reducible exact absurd hg2_19.symm Bool.false_ne_true | omega | (simp at hg2_19; done))
            all_goals
             refine wl_gv (want_y rfl rfl rfl rfl (by rw [hg2_19]; rfl)) (x_fa 3 Try.underlying33 rfl rfl ts_4 (tmP rfl rfl)) ?_
             first
              | refine wl_gv (want_y rfl rfl rfl rfl (by rw [hg2_19]; rfl)) (x_load Try.underlying4 rfl (tmP rfl rfl) (cellB hS.ok 0 rfl rfl)) ?_
              | refine wl_gv (want_y rfl rfl rfl rfl (by rw [hg2_19]; rfl)) (x_load Try.underlying4 rfl (tmP rfl rfl) (cellB hS.ok 0 rfl (getm (by omega)))) ?_
             refine wl_gv (want_y rfl rfl rfl rfl (by rw [hg2_19]; rfl)) (x_fa 3 Try.underlying33 rfl rfl ts_4 (tmP rfl rfl)) ?_
             first
              | refine wl_gv (want_y rfl rfl rfl rfl (by rw [hg2_19]; rfl)) (x_load Try.underlying4 rfl (tmP rfl rfl) (cellB hS.ok 1 rfl rfl)) ?_
              | refine wl_gv (want_y rfl rfl rfl rfl (by rw [hg2_19]; rfl)) (x_load Try.underlying4 rfl (tmP rfl rfl) (cellB hS.ok 1 rfl (getm (by omega)))) ?_
             refine wl_gv (want_y rfl rfl rfl rfl (by rw [hg2_19]; rfl)) (x_beql Try.underlying4 (tmB rfl rfl) (tmB rfl rfl)) ?_
             refine wl_v (x_pickT (tmB rfl rfl) hg2_19 (tmB rfl rfl)) ?_
             refine wl_v (x_move (tmB rfl rfl)) ?_
             refine gs_wl (tm (t := 35) rfl) (fun hg2_26 => ?_) (fun hg2_26 => ?_)
             · have hg2_26' := hg2_26; (try simp only [nrm] at hg2_26'); try (exfalso; first | with_reducible exact absurd hg2_26 Bool.false_ne_true | with_reducible exact absurd hg2_26.symm Bool.false_ne_true | omega | (simp at hg2_26; done))
               all_goals
                refine wl_gv (want_y rfl rfl rfl rfl (by rw [hg2_26]; rfl)) (x_fa 4 Try.underlying33 rfl rfl ts_4 (tmP rfl rfl)) ?_
                first
                 | refine wl_gv (want_y rfl rfl rfl rfl (by rw [hg2_26]; rfl)) (x_load Try.underlying4 rfl (tmP rfl rfl) (cellB hS.ok 0 rfl rfl)) ?_
                 | refine wl_gv (want_y rfl rfl rfl rfl (by rw [hg2_26]; rfl)) (x_load Try.underlying4 rfl (tmP rfl rfl) (cellB hS.ok 0 rfl (getm (by omega)))) ?_
                refine wl_gv (want_y rfl rfl rfl rfl (by rw [hg2_26]; rfl)) (x_fa 4 Try.underlying33 rfl rfl ts_4 (tmP rfl rfl)) ?_
                first
                 | refine wl_gv (want_y rfl rfl rfl rfl (by rw [hg2_26]; rfl)) (x_load Try.underlying4 rfl (tmP rfl rfl) (cellB hS.ok 1 rfl rfl)) ?_
                 | refine wl_gv (want_y rfl rfl rfl rfl (by rw [hg2_26]; rfl)) (x_load Try.underlying4 rfl (tmP rfl rfl) (cellB hS.ok 1 rfl (getm (by omega)))) ?_
                refine wl_gv (want_y rfl rfl rfl rfl (by rw [hg2_26]; rfl)) (x_beql Try.underlying4 (tmB rfl rfl) (tmB rfl rfl)) ?_
                refine wl_v (x_pickT (tmB rfl rfl) hg2_26 (tmB rfl rfl)) ?_
                refine wl_v (x_move (tmB rfl rfl)) ?_
                refine gs_wl (tm (t := 42) rfl) (fun hg2_33 => ?_) (fun hg2_33 => ?_)
                · have hg2_33' := hg2_33; (try simp only [nrm] at hg2_33'); try (exfalso; first | with_reducible exact absurd hg2_33 Bool.false_ne_true | with_reducible exact absurd hg2_33.symm Bool.false_ne_true | omega | (simp at hg2_33; done))
                  all_goals
                   refine wl_gv (want_y rfl rfl rfl rfl (by rw [hg2_33]; rfl)) (x_fa 5 Try.underlying33 rfl rfl ts_3 (tmP rfl rfl)) ?_
                   first
                    | refine wl_gv (want_y rfl rfl rfl rfl (by rw [hg2_33]; rfl)) (x_load Try.underlying3 rfl (tmP rfl rfl) (cellB hS.ok 0 rfl rfl)) ?_
                    | refine wl_gv (want_y rfl rfl rfl rfl (by rw [hg2_33]; rfl)) (x_load Try.underlying3 rfl (tmP rfl rfl) (cellB hS.ok 0 rfl (getm (by omega)))) ?_
                   refine wl_gv (want_y rfl rfl rfl rfl (by rw [hg2_33]; rfl)) (x_fa 5 Try.underlying33 rfl rfl ts_3 (tmP rfl rfl)) ?_
                   first
                    | refine wl_gv (want_y rfl rfl rfl rfl (by rw [hg2_33]; rfl)) (x_load Try.underlying3 rfl (tmP rfl rfl) (cellB hS.ok 1 rfl rfl)) ?_
                    | refine wl_gv (want_y rfl rfl rfl rfl (by rw [hg2_33]; rfl)) (x_load Try.underlying3 rfl (tmP rfl rfl) (cellB hS.ok 1 rfl (getm (by omega)))) ?_
                   refine wl_gv (want_y rfl rfl rfl rfl (by rw [hg2_33]; rfl)) (x_eql (tmI rfl rfl) (tmI rfl rfl)) ?_
                   refine wl_v (x_pickT (tmB rfl rfl) hg2_33 (tmB rfl rfl)) ?_
                   refine wl_v (x_move (tmB rfl rfl)) ?_
                   refine gs_wl (tm (t := 49) rfl) (fun hg2_40 => ?_) (fun hg2_40 => ?_)
                   · have hg2_40' := hg2_40; (try simp only [nrm] at hg2_40'); try (exfalso; first | with_reducible exact absurd hg2_40 Bool.false_ne_true | with_reducible exact absurd hg2_40.symm Bool.false_ne_true | omega | (simp at hg2_40; done))
                     all_goals
                      refine wl_gv (want_y rfl rfl rfl rfl (by rw [hg2_40]; rfl)) (x_fa 6 Try.underlying33 rfl rfl ts_5 (tmP rfl rfl)) ?_
                      first
                       | refine wl_gv (want_y rfl rfl rfl rfl (by rw [hg2_40]; rfl)) (x_load Try.underlying5 rfl (tmP rfl rfl) (cellB hS.ok 0 rfl rfl)) ?_
                       | refine wl_gv (want_y rfl rfl rfl rfl (by rw [hg2_40]; rfl)) (x_load Try.underlying5 rfl (tmP rfl rfl) (cellB hS.ok 0 rfl (getm (by omega)))) ?_
                      refine wl_gv (want_y rfl rfl rfl rfl (by rw [hg2_40]; rfl)) (x_fa 6 Try.underlying33 rfl rfl ts_5 (tmP rfl rfl)) ?_
                      first
                       | refine wl_gv (want_y rfl rfl rfl rfl (by rw [hg2_40]; rfl)) (x_load Try.underlying5 rfl (tmP rfl rfl) (cellB hS.ok 1 rfl rfl)) ?_
                       | refine wl_gv (want_y rfl rfl rfl rfl (by rw [hg2_40]; rfl)) (x_load Try.underlying5 rfl (tmP rfl rfl) (cellB hS.ok 1 rfl (getm (by omega)))) ?_
                      refine wl_gv (want_y rfl rfl rfl rfl (by rw [hg2_40]; rfl)) (x_eql (tmI rfl rfl) (tmI rfl rfl)) ?_
                      refine wl_v (x_pickT (tmB rfl rfl) hg2_40 (tmB rfl rfl)) ?_
                      refine wl_v (x_move (tmB rfl rfl)) ?_
                      refine gs_wl (tm (t := 56) rfl) (fun hg2_47 => ?_) (fun hg2_47 => ?_)
                      · have hg2_47' := hg2_47; (try simp only [nrm] at hg2_47'); try (exfalso; first | with_reducible exact absurd hg2_47 Bool.false_ne_true | with_reducible exact absurd hg2_47.symm Bool.false_ne_true | omega | (simp at hg2_47; done))
                        all_goals
                         refine wl_gv (want_y rfl rfl rfl rfl (by rw [hg2_47]; rfl)) (x_fa 7 Try.underlying33 rfl rfl ts_5 (tmP rfl rfl)) ?_
                         first
                          | refine wl_gv (want_y rfl rfl rfl rfl (by rw [hg2_47]; rfl)) (x_load Try.underlying5 rfl (tmP rfl rfl) (cellB hS.ok 0 rfl rfl)) ?_
                          | refine wl_gv (want_y rfl rfl rfl rfl (by rw [hg2_47]; rfl)) (x_load Try.underlying5 rfl (tmP rfl rfl) (cellB hS.ok 0 rfl (getm (by omega)))) ?_
                         refine wl_gv (want_y rfl rfl rfl rfl (by rw [hg2_47]; rfl)) (x_fa 7 Try.underlying33 rfl rfl ts_5 (tmP rfl rfl)) ?_
                         first
                          | refine wl_gv (want_y rfl rfl rfl rfl (by rw [hg2_47]; rfl)) (x_load Try.underlying5 rfl (tmP rfl rfl) (cellB hS.ok 1 rfl rfl)) ?_
                          | refine wl_gv (want_y rfl rfl rfl rfl (by rw [hg2_47]; rfl)) (x_load Try.underlying5 rfl (tmP rfl rfl) (cellB hS.ok 1 rfl (getm (by omega)))) ?_
                         refine wl_gv (want_y rfl rfl rfl rfl (by rw [hg2_47]; rfl)) (x_eql (tmI rfl rfl) (tmI rfl rfl)) ?_
                         refine wl_v (x_pickT (tmB rfl rfl) hg2_47 (tmB rfl rfl)) ?_
                         refine wl_v (x_move (tmB rfl rfl)) ?_
                         refine gs_wl (tm (t := 63) rfl) (fun hg2_54 => ?_) (fun hg2_54 => ?_)
                         · have hg2_54' := hg2_54; (try simp only [nrm] at hg2_54'); try (exfalso; first | with_reducible exact absurd hg2_54 Bool.false_ne_true | with_reducible exact absurd hg2_54.symm Bool.false_ne_true | omega | (simp at hg2_54; done))
                           all_goals
                            refine wl_gv (want_y rfl rfl rfl rfl (by rw [hg2_54]; rfl)) (x_fa 8 Try.underlying33 rfl rfl ts_24 (tmP rfl rfl)) ?_
                            first
                             | refine wl_gv (want_y rfl rfl rfl rfl (by rw [hg2_54]; rfl)) (x_load Try.underlying24 rfl (tmP rfl rfl) (cellB hS.ok 0 rfl rfl)) ?_
                             | refine wl_gv (want_y rfl rfl rfl rfl (by rw [hg2_54]; rfl)) (x_load Try.underlying24 rfl (tmP rfl rfl) (cellB hS.ok 0 rfl (getm (by omega)))) ?_
                            refine wl_gv (want_y rfl rfl rfl rfl (by rw [hg2_54]; rfl)) (x_fa 8 Try.underlying33 rfl rfl ts_24 (tmP rfl rfl)) ?_
                            first
                             | refine wl_gv (want_y rfl rfl rfl rfl (by rw [hg2_54]; rfl)) (x_load Try.underlying24 rfl (tmP rfl rfl) (cellB hS.ok 1 rfl rfl)) ?_
                             | refine wl_gv (want_y rfl rfl rfl rfl (by rw [hg2_54]; rfl)) (x_load Try.underlying24 rfl (tmP rfl rfl) (cellB hS.ok 1 rfl (getm (by omega)))) ?_
                            refine wl_gv (want_y rfl rfl rfl rfl (by rw [hg2_54]; rfl)) (x_eql (tmI rfl rfl) (tmI rfl rfl)) ?_
                            refine wl_v (x_pickT (tmB rfl rfl) hg2_54 (tmB rfl rfl)) ?_
                            refine wl_v (x_move (tmB rfl rfl)) ?_
                            refine gs_wl (tm (t := 70) rfl) (fun hg2_61 => ?_) (fun hg2_61 => ?_)
                            · have hg2_61' := hg2_61; (try simp only [nrm] at hg2_61'); try (exfalso; first | with_reducible exact absurd hg2_61 Bool.false_ne_true | with_reducible exact absurd hg2_61.symm Bool.false_ne_true | omega | (simp at hg2_61; done))
                              all_goals
                               refine wl_gv (want_y rfl rfl rfl rfl (by rw [hg2_61]; rfl)) (x_fa 9 Try.underlying33 rfl rfl ts_27 (tmP rfl rfl)) ?_
                               refine wl_gv (want_y rfl rfl rfl rfl (by rw [hg2_61]; rfl)) (x_loadA (cs := [_, _, _]) Try.underlying27 rfl ts_27 (tmP rfl rfl) (rangeB hS.ok 0 rfl rfl)) ?_
                               refine wl_gv (want_y rfl rfl rfl rfl (by rw [hg2_61]; rfl)) (x_fa 9 Try.underlying33 rfl rfl ts_27 (tmP rfl rfl)) ?_
                               refine wl_gv (want_y rfl rfl rfl rfl (by rw [hg2_61]; rfl)) (x_loadA (cs := [_, _, _]) Try.underlying27 rfl ts_27 (tmP rfl rfl) (rangeB hS.ok 1 rfl rfl)) ?_
                               refine wl_gv (want_y rfl rfl rfl rfl (by rw [hg2_61]; rfl)) (x_Aeql (by kernel_rfl) (tmA rfl rfl) (tmA rfl rfl) (eqv_A Try.underlying27 (by kernel_rfl) (fe_cons rfl (pt_1 Try.underlying4 rfl rfl) (pt_1 Try.underlying4 rfl rfl) (eqv_b Try.underlying4) <| fe_cons rfl (pt_1 Try.underlying25 rfl rfl) (pt_1 Try.underlying25 rfl rfl) (eqv_i Try.underlying25) <| fe_cons rfl (pt_1 Try.underlying25 rfl rfl) (pt_1 Try.underlying25 rfl rfl) (eqv_i Try.underlying25) <| fe_nil))) ?_
                               refine wl_v (x_pickT (tmB rfl rfl) hg2_61 (tmB rfl rfl)) ?_
                               refine wl_v (x_move (tmB rfl rfl)) ?_
                               refine gs_wl (tm (t := 77) rfl) (fun hg2_68 => ?_) (fun hg2_68 => ?_)
                               · have hg2_68' := hg2_68; (try simp only [nrm] at hg2_68'); try (exfalso; first | with_reducible exact absurd hg2_68 Bool.false_ne_true | with_reducible exact absurd hg2_68.symm Bool.false_ne_true | omega | (simp at hg2_68; done))
                                 all_goals
                                  refine wl_gv (want_y rfl rfl rfl rfl (by rw [hg2_68]; rfl)) (x_fa 12 Try.underlying33 rfl rfl ts_27 (tmP rfl rfl)) ?_
                                  refine wl_gv (want_y rfl rfl rfl rfl (by rw [hg2_68]; rfl)) (x_loadA (cs := [_, _, _]) Try.underlying27 rfl ts_27 (tmP rfl rfl) (rangeB hS.ok 0 rfl rfl)) ?_
                                  refine wl_gv (want_y rfl rfl rfl rfl (by rw [hg2_68]; rfl)) (x_fa 12 Try.underlying33 rfl rfl ts_27 (tmP rfl rfl)) ?_
                                  refine wl_gv (want_y rfl rfl rfl rfl (by rw [hg2_68]; rfl)) (x_loadA (cs := [_, _, _]) Try.underlying27 rfl ts_27 (tmP rfl rfl) (rangeB hS.ok 1 rfl rfl)) ?_
                                  refine wl_gv (want_y rfl rfl rfl rfl (by rw [hg2_68]; rfl)) (x_Aeql (by kernel_rfl) (tmA rfl rfl) (tmA rfl rfl) (eqv_A Try.underlying27 (by kernel_rfl) (fe_cons rfl (pt_1 Try.underlying4 rfl rfl) (pt_1 Try.underlying4 rfl rfl) (eqv_b Try.underlying4) <| fe_cons rfl (pt_1 Try.underlying25 rfl rfl) (pt_1 Try.underlying25 rfl rfl) (eqv_i Try.underlying25) <| fe_cons rfl (pt_1 Try.underlying25 rfl rfl) (pt_1 Try.underlying25 rfl rfl) (eqv_i Try.underlying25) <| fe_nil))) ?_
                                  refine wl_v (x_pickT (tmB rfl rfl) hg2_68 (tmB rfl rfl)) ?_
                                  refine wl_v (x_move (tmB rfl rfl)) ?_
                                  refine gs_wl (tm (t := 84) rfl) (fun hg2_75 => ?_) (fun hg2_75 => ?_)
                                  · have hg2_75' := hg2_75; (try simp only [nrm] at hg2_75'); try (exfalso; first | with_reducible exact absurd hg2_75 Bool.false_ne_true | with_reducible exact absurd hg2_75.symm Bool.false_ne_true | omega | (simp at hg2_75; done))
                                    all_goals
                                     refine wl_gv (want_y rfl rfl rfl rfl (by rw [hg2_75]; rfl)) (x_fa 15 Try.underlying33 rfl rfl ts_22 (tmP rfl rfl)) ?_
                                     first
                                      | refine wl_gv (want_y rfl rfl rfl rfl (by rw [hg2_75]; rfl)) (x_load Try.underlying22 rfl (tmP rfl rfl) (cellB hS.ok 0 rfl rfl)) ?_
                                      | refine wl_gv (want_y rfl rfl rfl rfl (by rw [hg2_75]; rfl)) (x_load Try.underlying22 rfl (tmP rfl rfl) (cellB hS.ok 0 rfl (getm (by omega)))) ?_
                                     first
                                      | refine wl_gv (want_y rfl rfl rfl rfl (by rw [hg2_75]; rfl)) (x_bstr Try.underlying22 Try.underlying5 Try.underlying9 (tmS rfl rfl) (viewV hS.ok 4 rfl) (by first | assumption | exact Bytes.nil | (repeat' (first | assumption | exact Bytes.nil | exact be_bytes _ _ | apply Bytes.append | apply Bytes.take | apply Bytes.drop | apply Bytes.replicate))) (by first | rfl | assumption | (simp; done) | (simp; omega) | omega)) ?_
                                      | refine wl_gv (want_y rfl rfl rfl rfl (by rw [hg2_75]; rfl)) (x_bstr Try.underlying22 Try.underlying5 Try.underlying9 (tmS rfl rfl) (viewV hS.ok 5 rfl) (by first | assumption | exact Bytes.nil | (repeat' (first | assumption | exact Bytes.nil | exact be_bytes _ _ | apply Bytes.append | apply Bytes.take | apply Bytes.drop | apply Bytes.replicate))) (by first | rfl | assumption | (simp; done) | (simp; omega) | omega)) ?_
                                      | refine wl_gv (want_y rfl rfl rfl rfl (by rw [hg2_75]; rfl)) (x_bstr Try.underlying22 Try.underlying5 Try.underlying9 (tmS rfl rfl) View.nil_ (by first | assumption | exact Bytes.nil | (repeat' (first | assumption | exact Bytes.nil | exact be_bytes _ _ | apply Bytes.append | apply Bytes.take | apply Bytes.drop | apply Bytes.replicate))) (by first | rfl | assumption | (simp; done) | (simp; omega) | omega)) ?_
                                     refine wl_gv (want_y rfl rfl rfl rfl (by rw [hg2_75]; rfl)) (x_fa 15 Try.underlying33 rfl rfl ts_22 (tmP rfl rfl)) ?_
                                     first
                                      | refine wl_gv (want_y rfl rfl rfl rfl (by rw [hg2_75]; rfl)) (x_load Try.underlying22 rfl (tmP rfl rfl) (cellB hS.ok 1 rfl rfl)) ?_
                                      | refine wl_gv (want_y rfl rfl rfl rfl (by rw [hg2_75]; rfl)) (x_load Try.underlying22 rfl (tmP rfl rfl) (cellB hS.ok 1 rfl (getm (by omega)))) ?_
                                     first
                                      | refine wl_gv (want_y rfl rfl rfl rfl (by rw [hg2_75]; rfl)) (x_bstr Try.underlying22 Try.underlying5 Try.underlying9 (tmS rfl rfl) (viewV hS.ok 4 rfl) (by first | assumption | exact Bytes.nil | (repeat' (first | assumption | exact Bytes.nil | exact be_bytes _ _ | apply Bytes.append | apply Bytes.take | apply Bytes.drop | apply Bytes.replicate))) (by first | rfl | assumption | (simp; done) | (simp; omega) | omega)) ?_
                                      | refine wl_gv (want_y rfl rfl rfl rfl (by rw [hg2_75]; rfl)) (x_bstr Try.underlying22 Try.underlying5 Try.underlying9 (tmS rfl rfl) (viewV hS.ok 5 rfl) (by first | assumption | exact Bytes.nil | (repeat' (first | assumption | exact Bytes.nil | exact be_bytes _ _ | apply Bytes.append | apply Bytes.take | apply Bytes.drop | apply Bytes.replicate))) (by first | rfl | assumption | (simp; done) | (simp; omega) | omega)) ?_
                                      | refine wl_gv (want_y rfl rfl rfl rfl (by rw [hg2_75]; rfl)) (x_bstr Try.underlying22 Try.underlying5 Try.underlying9 (tmS rfl rfl) View.nil_ (by first | assumption | exact Bytes.nil | (repeat' (first | assumption | exact Bytes.nil | exact be_bytes _ _ | apply Bytes.append | apply Bytes.take | apply Bytes.drop | apply Bytes.replicate))) (by first | rfl | assumption | (simp; done) | (simp; omega) | omega)) ?_
                                     refine wl_gv (want_y rfl rfl rfl rfl (by rw [hg2_75]; rfl)) (x_Geql (tmG rfl rfl) (tmG rfl rfl) (by first | assumption | exact Bytes.nil | (repeat' (first | assumption | exact Bytes.nil | exact be_bytes _ _ | apply Bytes.append | apply Bytes.take | apply Bytes.drop | apply Bytes.replicate))) (by first | assumption | exact Bytes.nil | (repeat' (first | assumption | exact Bytes.nil | exact be_bytes _ _ | apply Bytes.append | apply Bytes.take | apply Bytes.drop | apply Bytes.replicate)))) ?_
                                     refine wl_v (x_pickT (tmB rfl rfl) hg2_75 (tmB rfl rfl)) ?_
                                     refine wl_v (x_assign (tmB rfl rfl)) ?_
                                     refine wl_nil ?_
                                     refine then_n (hK4 _ _ ?_); clear hK4 K4
                                     refine wp_ret ?_
                                     refine ret1 rfl (.tmp rfl (show _ = Value.bool _ from rfl)) ?_
                                     exact ⟨by simp, hS.kp⟩
                                  have hg2_75' := hg2_75; (try simp only [nrm] at hg2_75'); try (exfalso; first | with_reducible exact absurd hg2_75 Bool.false_ne_true | with_reducible exact absurd hg2_75.symm Bool.false_ne_true | omega | (simp at hg2_75; done))
                                  all_goals
                                   refine wl_s rfl (want_n rfl rfl rfl rfl (by rw [hg2_75]; rfl)) ?_
                                   refine wl_s rfl (want_n rfl rfl rfl rfl (by rw [hg2_75]; rfl)) ?_
                                   refine wl_s rfl (want_n rfl rfl rfl rfl (by rw [hg2_75]; rfl)) ?_
                                   refine wl_s rfl (want_n rfl rfl rfl rfl (by rw [hg2_75]; rfl)) ?_
                                   refine wl_s rfl (want_n rfl rfl rfl rfl (by rw [hg2_75]; rfl)) ?_
                                   refine wl_s rfl (want_n rfl rfl rfl rfl (by rw [hg2_75]; rfl)) ?_
                                   refine wl_s rfl (want_n rfl rfl rfl rfl (by rw [hg2_75]; rfl)) ?_
                                   refine wl_v (x_pickF (tmB rfl rfl) hg2_75 ev_c) ?_
                                   refine wl_v (x_assign (tmB rfl rfl)) ?_
                                   refine wl_nil ?_
                                   refine then_n (hK4 _ _ ?_); clear hK4 K4
                                   refine wp_ret ?_
                                   refine ret1 rfl (.tmp rfl (show _ = Value.bool _ from rfl)) ?_
                                   exact ⟨by simp, hS.kp⟩
                               have hg2_68' := hg2_68; (try simp only [nrm] at hg2_68'); try (exfalso; first | with_reducible exact absurd hg2_68 Bool.false_ne_true | with_reducible exact absurd hg2_68.symm Bool.false_ne_true | omega | (simp at hg2_68; done))
                               all_goals
                                refine wl_s rfl (want_n rfl rfl rfl rfl (by rw [hg2_68]; rfl)) ?_
                                refine wl_s rfl (want_n rfl rfl rfl rfl (by rw [hg2_68]; rfl)) ?_
                                refine wl_s rfl (want_n rfl rfl rfl rfl (by rw [hg2_68]; rfl)) ?_
                                refine wl_s rfl (want_n rfl rfl rfl rfl (by rw [hg2_68]; rfl)) ?_
                                refine wl_s rfl (want_n rfl rfl rfl rfl (by rw [hg2_68]; rfl)) ?_
                                refine wl_v (x_pickF (tmB rfl rfl) hg2_68 ev_c) ?_
                                refine wl_v (x_move (tmB rfl rfl)) ?_
                                refine wl_s rfl (want_n rfl rfl rfl rfl rfl) ?_
                                refine wl_s rfl (want_n rfl rfl rfl rfl rfl) ?_
                                refine wl_s rfl (want_n rfl rfl rfl rfl rfl) ?_
                                refine wl_s rfl (want_n rfl rfl rfl rfl rfl) ?_
                                refine wl_s rfl (want_n rfl rfl rfl rfl rfl) ?_
                                refine wl_s rfl (want_n rfl rfl rfl rfl rfl) ?_
                                refine wl_s rfl (want_n rfl rfl rfl rfl rfl) ?_
                                refine wl_v (x_pickF (tmB rfl rfl) rfl ev_c) ?_
                                refine wl_v (x_assign (tmB rfl rfl)) ?_
                                refine wl_nil ?_
                                refine then_n (hK4 _ _ ?_); clear hK4 K4
                                refine wp_ret ?_
                                refine ret1 rfl (.tmp rfl (show _ = Value.bool _ from rfl)) ?_
                                exact ⟨by simp, hS.kp⟩
                            have hg2_61' := hg2_61; (try simp only [nrm] at hg2_61'); try (exfalso; first | with_reducible exact absurd hg2_61 Bool.false_ne_true | with_reducible exact absurd hg2_61.symm Bool.false_ne_true | omega | (simp at hg2_61; done))
                            all_goals
                             refine wl_s rfl (want_n rfl rfl rfl rfl (by rw [hg2_61]; rfl)) ?_
                             refine wl_s rfl (want_n rfl rfl rfl rfl (by rw [hg2_61]; rfl)) ?_
                             refine wl_s rfl (want_n rfl rfl rfl rfl (by rw [hg2_61]; rfl)) ?_
                             refine wl_s rfl (want_n rfl rfl rfl rfl (by rw [hg2_61]; rfl)) ?_
                             refine wl_s rfl (want_n rfl rfl rfl rfl (by rw [hg2_61]; rfl)) ?_
                             refine wl_v (x_pickF (tmB rfl rfl) hg2_61 ev_c) ?_
                             refine wl_v (x_move (tmB rfl rfl)) ?_
                             refine wl_s rfl (want_n rfl rfl rfl rfl rfl) ?_
                             refine wl_s rfl (want_n rfl rfl rfl rfl rfl) ?_
                             refine wl_s rfl (want_n rfl rfl rfl rfl rfl) ?_
                             refine wl_s rfl (want_n rfl rfl rfl rfl rfl) ?_
                             refine wl_s rfl (want_n rfl rfl rfl rfl rfl) ?_
                             refine wl_v (x_pickF (tmB rfl rfl) rfl ev_c) ?_
                             refine wl_v (x_move (tmB rfl rfl)) ?_
                             refine wl_s rfl (want_n rfl rfl rfl rfl rfl) ?_
                             refine wl_s rfl (want_n rfl rfl rfl rfl rfl) ?_
                             refine wl_s rfl (want_n rfl rfl rfl rfl rfl) ?_
                             refine wl_s rfl (want_n rfl rfl rfl rfl rfl) ?_
                             refine wl_s rfl (want_n rfl rfl rfl rfl rfl) ?_
                             refine wl_s rfl (want_n rfl rfl rfl rfl rfl) ?_
                             refine wl_s rfl (want_n rfl rfl rfl rfl rfl) ?_
                             refine wl_v (x_pickF (tmB rfl rfl) rfl ev_c) ?_
                             refine wl_v (x_assign (tmB rfl rfl)) ?_
                             refine wl_nil ?_
                             refine then_n (hK4 _ _ ?_); clear hK4 K4
                             refine wp_ret ?_
                             refine ret1 rfl (.tmp rfl (show _ = Value.bool _ from rfl)) ?_
                             exact ⟨by simp, hS.kp⟩
                         have hg2_54' := hg2_54; (try simp only [nrm] at hg2_54'); try (exfalso; first | with_reducible exact absurd hg2_54 Bool.false_ne_true | with_reducible exact absurd hg2_54.symm Bool.false_ne_true | omega | (simp at hg2_54; done))
                         all_goals
                          refine wl_s rfl (want_n rfl rfl rfl rfl (by rw [hg2_54]; rfl)) ?_
                          refine wl_s rfl (want_n rfl rfl rfl rfl (by rw [hg2_54]; rfl)) ?_
                          refine wl_s rfl (want_n rfl rfl rfl rfl (by rw [hg2_54]; rfl)) ?_
                          refine wl_s rfl (want_n rfl rfl rfl rfl (by rw [hg2_54]; rfl)) ?_
                          refine wl_s rfl (want_n rfl rfl rfl rfl (by rw [hg2_54]; rfl)) ?_
                          refine wl_v (x_pickF (tmB rfl rfl) hg2_54 ev_c) ?_
                          refine wl_v (x_move (tmB rfl rfl)) ?_
                          refine wl_s rfl (want_n rfl rfl rfl rfl rfl) ?_
                          refine wl_s rfl (want_n rfl rfl rfl rfl rfl) ?_
                          refine wl_s rfl (want_n rfl rfl rfl rfl rfl) ?_
                          refine wl_s rfl (want_n rfl rfl rfl rfl rfl) ?_
                          refine wl_s rfl (want_n rfl rfl rfl rfl rfl) ?_
                          refine wl_v (x_pickF (tmB rfl rfl) rfl ev_c) ?_
                          refine wl_v (x_move (tmB rfl rfl)) ?_
                          refine wl_s rfl (want_n rfl rfl rfl rfl rfl) ?_
                          refine wl_s rfl (want_n rfl rfl rfl rfl rfl) ?_
                          refine wl_s rfl (want_n rfl rfl rfl rfl rfl) ?_
                          refine wl_s rfl (want_n rfl rfl rfl rfl rfl) ?_
                          refine wl_s rfl (want_n rfl rfl rfl rfl rfl) ?_
                          refine wl_v (x_pickF (tmB rfl rfl) rfl ev_c) ?_
                          refine wl_v (x_move (tmB rfl rfl)) ?_
                          refine wl_s rfl (want_n rfl rfl rfl rfl rfl) ?_
                          refine wl_s rfl (want_n rfl rfl rfl rfl rfl) ?_
                          refine wl_s rfl (want_n rfl rfl rfl rfl rfl) ?_
                          refine wl_s rfl (want_n rfl rfl rfl rfl rfl) ?_
                          refine wl_s rfl (want_n rfl rfl rfl rfl rfl) ?_
                          refine wl_s rfl (want_n rfl rfl rfl rfl rfl) ?_
                          refine wl_s rfl (want_n rfl rfl rfl rfl rfl) ?_
                          refine wl_v (x_pickF (tmB rfl rfl) rfl ev_c) ?_
                          refine wl_v (x_assign (tmB rfl rfl)) ?_
                          refine wl_nil ?_
                          refine then_n (hK4 _ _ ?_); clear hK4 K4
                          refine wp_ret ?_
                          refine ret1 rfl (.tmp rfl (show _ = Value.bool _ from rfl)) ?_
                          exact ⟨by simp, hS.kp⟩
                      have hg2_47' := hg2_47; (try simp only [nrm] at hg2_47'); try (exfalso; first | with_reducible exact absurd hg2_47 Bool.false_ne_true | with_reducible exact absurd hg2_47.symm Bool.false_ne_true | omega | (simp at hg2_47; done))
                      all_goals
                       refine wl_s rfl (want_n rfl rfl rfl rfl (by rw [hg2_47]; rfl)) ?_
                       refine wl_s rfl (want_n rfl rfl rfl rfl (by rw [hg2_47]; rfl)) ?_
                       refine wl_s rfl (want_n rfl rfl rfl rfl (by rw [hg2_47]; rfl)) ?_
                       refine wl_s rfl (want_n rfl rfl rfl rfl (by rw [hg2_47]; rfl)) ?_
                       refine wl_s rfl (want_n rfl rfl rfl rfl (by rw [hg2_47]; rfl)) ?_
                       refine wl_v (x_pickF (tmB rfl rfl) hg2_47 ev_c) ?_
                       refine wl_v (x_move (tmB rfl rfl)) ?_
                       refine wl_s rfl (want_n rfl rfl rfl rfl rfl) ?_
                       refine wl_s rfl (want_n rfl rfl rfl rfl rfl) ?_
                       refine wl_s rfl (want_n rfl rfl rfl rfl rfl) ?_
                       refine wl_s rfl (want_n rfl rfl rfl rfl rfl) ?_
                       refine wl_s rfl (want_n rfl rfl rfl rfl rfl) ?_
                       refine wl_v (x_pickF (tmB rfl rfl) rfl ev_c) ?_
                       refine wl_v (x_move (tmB rfl rfl)) ?_
                       refine wl_s rfl (want_n rfl rfl rfl rfl rfl) ?_
                       refine wl_s rfl (want_n rfl rfl rfl rfl rfl) ?_
                       refine wl_s rfl (want_n rfl rfl rfl rfl rfl) ?_
                       refine wl_s rfl (want_n rfl rfl rfl rfl rfl) ?_
                       refine wl_s rfl (want_n rfl rfl rfl rfl rfl) ?_
                       refine wl_v (x_pickF (tmB rfl rfl) rfl ev_c) ?_
                       refine wl_v (x_move (tmB rfl rfl)) ?_
                       refine wl_s rfl (want_n rfl rfl rfl rfl rfl) ?_
                       refine wl_s rfl (want_n rfl rfl rfl rfl rfl) ?_
                       refine wl_s rfl (want_n rfl rfl rfl rfl rfl) ?_
                       refine wl_s rfl (want_n rfl rfl rfl rfl rfl) ?_
                       refine wl_s rfl (want_n rfl rfl rfl rfl rfl) ?_
                       refine wl_v (x_pickF (tmB rfl rfl) rfl ev_c) ?_
                       refine wl_v (x_move (tmB rfl rfl)) ?_
                       refine wl_s rfl (want_n rfl rfl rfl rfl rfl) ?_
                       refine wl_s rfl (want_n rfl rfl rfl rfl rfl) ?_
                       refine wl_s rfl (want_n rfl rfl rfl rfl rfl) ?_
                       refine wl_s rfl (want_n rfl rfl rfl rfl rfl) ?_
                       refine wl_s rfl (want_n rfl rfl rfl rfl rfl) ?_
                       refine wl_s rfl (want_n rfl rfl rfl rfl rfl) ?_
                       refine wl_s rfl (want_n rfl rfl rfl rfl rfl) ?_
                       refine wl_v (x_pickF (tmB rfl rfl) rfl ev_c) ?_
                       refine wl_v (x_assign (tmB rfl rfl)) ?_
                       refine wl_nil ?_
                       refine then_n (hK4 _ _ ?_); clear hK4 K4
                       refine wp_ret ?_
                       refine ret1 rfl (.tmp rfl (show _ = Value.bool _ from rfl)) ?_
                       exact ⟨by simp, hS.kp⟩
                   have hg2_40' := hg2_40; (try simp only [nrm] at hg2_40'); try (exfalso; first | with_reducible exact absurd hg2_40 Bool.false_ne_true | with_reducible exact absurd hg2_40.symm Bool.false_ne_true | omega | (simp at hg2_40; done))
                   all_goals
                    refine wl_s rfl (want_n rfl rfl rfl rfl (by rw [hg2_40]; rfl)) ?_
                    refine wl_s rfl (want_n rfl rfl rfl rfl (by rw [hg2_40]; rfl)) ?_
                    refine wl_s rfl (want_n rfl rfl rfl rfl (by rw [hg2_40]; rfl)) ?_
                    refine wl_s rfl (want_n rfl rfl rfl rfl (by rw [hg2_40]; rfl)) ?_
                    refine wl_s rfl (want_n rfl rfl rfl rfl (by rw [hg2_40]; rfl)) ?_
                    refine wl_v (x_pickF (tmB rfl rfl) hg2_40 ev_c) ?_
                    refine wl_v (x_move (tmB rfl rfl)) ?_
                    refine wl_s rfl (want_n rfl rfl rfl rfl rfl) ?_
                    refine wl_s rfl (want_n rfl rfl rfl rfl rfl) ?_
                    refine wl_s rfl (want_n rfl rfl rfl rfl rfl) ?_
                    refine wl_s rfl (want_n rfl rfl rfl rfl rfl) ?_
                    refine wl_s rfl (want_n rfl rfl rfl rfl rfl) ?_
                    refine wl_v (x_pickF (tmB rfl rfl) rfl ev_c) ?_
                    refine wl_v (x_move (tmB rfl rfl)) ?_
                    refine wl_s rfl (want_n rfl rfl rfl rfl rfl) ?_
                    refine wl_s rfl (want_n rfl rfl rfl rfl rfl) ?_
                    refine wl_s rfl (want_n rfl rfl rfl rfl rfl) ?_
                    refine wl_s rfl (want_n rfl rfl rfl rfl rfl) ?_
                    refine wl_s rfl (want_n rfl rfl rfl rfl rfl) ?_
                    refine wl_v (x_pickF (tmB rfl rfl) rfl ev_c) ?_
                    refine wl_v (x_move (tmB rfl rfl)) ?_
                    refine wl_s rfl (want_n rfl rfl rfl rfl rfl) ?_
                    refine wl_s rfl (want_n rfl rfl rfl rfl rfl) ?_
                    refine wl_s rfl (want_n rfl rfl rfl rfl rfl) ?_
                    refine wl_s rfl (want_n rfl rfl rfl rfl rfl) ?_
                    refine wl_s rfl (want_n rfl rfl rfl rfl rfl) ?_
                    refine wl_v (x_pickF (tmB rfl rfl) rfl ev_c) ?_
                    refine wl_v (x_move (tmB rfl rfl)) ?_
                    refine wl_s rfl (want_n rfl rfl rfl rfl rfl) ?_
                    refine wl_s rfl (want_n rfl rfl rfl rfl rfl) ?_
                    refine wl_s rfl (want_n rfl rfl rfl rfl rfl) ?_
                    refine wl_s rfl (want_n rfl rfl rfl rfl rfl) ?_
                    refine wl_s rfl (want_n rfl rfl rfl rfl rfl) ?_
                    refine wl_v (x_pickF (tmB rfl rfl) rfl ev_c) ?_
                    refine wl_v (x_move (tmB rfl rfl)) ?_
                    refine wl_s rfl (want_n rfl rfl rfl rfl rfl) ?_
                    refine wl_s rfl (want_n rfl rfl rfl rfl rfl) ?_
                    refine wl_s rfl (want_n rfl rfl rfl rfl rfl) ?_
                    refine wl_s rfl (want_n rfl rfl rfl rfl rfl) ?_
                    refine wl_s rfl (want_n rfl rfl rfl rfl rfl) ?_
                    refine wl_s rfl (want_n rfl rfl rfl rfl rfl) ?_
                    refine wl_s rfl (want_n rfl rfl rfl rfl rfl) ?_
                    refine wl_v (x_pickF (tmB rfl rfl) rfl ev_c) ?_
                    refine wl_v (x_assign (tmB rfl rfl)) ?_
                    refine wl_nil ?_
                    refine then_n (hK4 _ _ ?_); clear hK4 K4
                    refine wp_ret ?_
                    refine ret1 rfl (.tmp rfl (show _ = Value.bool _ from rfl)) ?_
                    exact ⟨by simp, hS.kp⟩
                have hg2_33' := hg2_33; (try simp only [nrm] at hg2_33'); try (exfalso; first | with_reducible exact absurd hg2_33 Bool.false_ne_true | with_reducible exact absurd hg2_33.symm Bool.false_ne_true | omega | (simp at hg2_33; done))
                all_goals
                 refine wl_s rfl (want_n rfl rfl rfl rfl (by rw [hg2_33]; rfl)) ?_
                 refine wl_s rfl (want_n rfl rfl rfl rfl (by rw [hg2_33]; rfl)) ?_
                 refine wl_s rfl (want_n rfl rfl rfl rfl (by rw [hg2_33]; rfl)) ?_
                 refine wl_s rfl (want_n rfl rfl rfl rfl (by rw [hg2_33]; rfl)) ?_
                 refine wl_s rfl (want_n rfl rfl rfl rfl (by rw [hg2_33]; rfl)) ?_
                 refine wl_v (x_pickF (tmB rfl rfl) hg2_33 ev_c) ?_
                 refine wl_v (x_move (tmB rfl rfl)) ?_
                 refine wl_s rfl (want_n rfl rfl rfl rfl rfl) ?_
                 refine wl_s rfl (want_n rfl rfl rfl rfl rfl) ?_
                 refine wl_s rfl (want_n rfl rfl rfl rfl rfl) ?_
                 refine wl_s rfl (want_n rfl rfl rfl rfl rfl) ?_
                 refine wl_s rfl (want_n rfl rfl rfl rfl rfl) ?_
                 refine wl_v (x_pickF (tmB rfl rfl) rfl ev_c) ?_
                 refine wl_v (x_move (tmB rfl rfl)) ?_
                 refine wl_s rfl (want_n rfl rfl rfl rfl rfl) ?_
                 refine wl_s rfl (want_n rfl rfl rfl rfl rfl) ?_
                 refine wl_s rfl (want_n rfl rfl rfl rfl rfl) ?_
                 refine wl_s rfl (want_n rfl rfl rfl rfl rfl) ?_
                 refine wl_s rfl (want_n rfl rfl rfl rfl rfl) ?_
                 refine wl_v (x_pickF (tmB rfl rfl) rfl ev_c) ?_
                 refine wl_v (x_move (tmB rfl rfl)) ?_
                 refine wl_s rfl (want_n rfl rfl rfl rfl rfl) ?_
                 refine wl_s rfl (want_n rfl rfl rfl rfl rfl) ?_
                 refine wl_s rfl (want_n rfl rfl rfl rfl rfl) ?_
                 refine wl_s rfl (want_n rfl rfl rfl rfl rfl) ?_
                 refine wl_s rfl (want_n rfl rfl rfl rfl rfl) ?_
                 refine wl_v (x_pickF (tmB rfl rfl) rfl ev_c) ?_
                 refine wl_v (x_move (tmB rfl rfl)) ?_
                 refine wl_s rfl (want_n rfl rfl rfl rfl rfl) ?_
                 refine wl_s rfl (want_n rfl rfl rfl rfl rfl) ?_
                 refine wl_s rfl (want_n rfl rfl rfl rfl rfl) ?_
                 refine wl_s rfl (want_n rfl rfl rfl rfl rfl) ?_
                 refine wl_s rfl (want_n rfl rfl rfl rfl rfl) ?_
                 refine wl_v (x_pickF (tmB rfl rfl) rfl ev_c) ?_
                 refine wl_v (x_move (tmB rfl rfl)) ?_
                 refine wl_s rfl (want_n rfl rfl rfl rfl rfl) ?_
                 refine wl_s rfl (want_n rfl rfl rfl rfl rfl) ?_
                 refine wl_s rfl (want_n rfl rfl rfl rfl rfl) ?_
                 refine wl_s rfl (want_n rfl rfl rfl rfl rfl) ?_
                 refine wl_s rfl (want_n rfl rfl rfl rfl rfl) ?_
                 refine wl_v (x_pickF (tmB rfl rfl) rfl ev_c) ?_
                 refine wl_v (x_move (tmB rfl rfl)) ?_
                 refine wl_s rfl (want_n rfl rfl rfl rfl rfl) ?_
                 refine wl_s rfl (want_n rfl rfl rfl rfl rfl) ?_
                 refine wl_s rfl (want_n rfl rfl rfl rfl rfl) ?_
                 refine wl_s rfl (want_n rfl rfl rfl rfl rfl) ?_
                 refine wl_s rfl (want_n rfl rfl rfl rfl rfl) ?_
                 refine wl_s rfl (want_n rfl rfl rfl rfl rfl) ?_
                 refine wl_s rfl (want_n rfl rfl rfl rfl rfl) ?_
                 refine wl_v (x_pickF (tmB rfl rfl) rfl ev_c) ?_
                 refine wl_v (x_assign (tmB rfl rfl)) ?_
                 refine wl_nil ?_
                 refine then_n (hK4 _ _ ?_); clear hK4 K4
                 refine wp_ret ?_
                 refine ret1 rfl (.tmp rfl (show _ = Value.bool _ from rfl)) ?_
                 exact ⟨by simp, hS.kp⟩
             have hg2_26' := hg2_26; (try simp only [nrm] at hg2_26'); try (exfalso; first | with_reducible exact absurd hg2_26 Bool.false_ne_true | with_reducible exact absurd hg2_26.symm Bool.false_ne_true | omega | (simp at hg2_26; done))
             all_goals
              refine wl_s rfl (want_n rfl rfl rfl rfl (by rw [hg2_26]; rfl)) ?_
              refine wl_s rfl (want_n rfl rfl rfl rfl (by rw [hg2_26]; rfl)) ?_
              refine wl_s rfl (want_n rfl rfl rfl rfl (by rw [hg2_26]; rfl)) ?_
              refine wl_s rfl (want_n rfl rfl rfl rfl (by rw [hg2_26]; rfl)) ?_
              refine wl_s rfl (want_n rfl rfl rfl rfl (by rw [hg2_26]; rfl)) ?_
              refine wl_v (x_pickF (tmB rfl rfl) hg2_26 ev_c) ?_
              refine wl_v (x_move (tmB rfl rfl)) ?_
              refine wl_s rfl (want_n rfl rfl rfl rfl rfl) ?_
              refine wl_s rfl (want_n rfl rfl rfl rfl rfl) ?_
              refine wl_s rfl (want_n rfl rfl rfl rfl rfl) ?_
              refine wl_s rfl (want_n rfl rfl rfl rfl rfl) ?_
              refine wl_s rfl (want_n rfl rfl rfl rfl rfl) ?_
              refine wl_v (x_pickF (tmB rfl rfl) rfl ev_c) ?_
              refine wl_v (x_move (tmB rfl rfl)) ?_
              refine wl_s rfl (want_n rfl rfl rfl rfl rfl) ?_
              refine wl_s rfl (want_n rfl rfl rfl rfl rfl) ?_
              refine wl_s rfl (want_n rfl rfl rfl rfl rfl) ?_
              refine wl_s rfl (want_n rfl rfl rfl rfl rfl) ?_
              refine wl_s rfl (want_n rfl rfl rfl rfl rfl) ?_
              refine wl_v (x_pickF (tmB rfl rfl) rfl ev_c) ?_
              refine wl_v (x_move (tmB rfl rfl)) ?_
              refine wl_s rfl (want_n rfl rfl rfl rfl rfl) ?_
              refine wl_s rfl (want_n rfl rfl rfl rfl rfl) ?_
              refine wl_s rfl (want_n rfl rfl rfl rfl rfl) ?_
              refine wl_s rfl (want_n rfl rfl rfl rfl rfl) ?_
              refine wl_s rfl (want_n rfl rfl rfl rfl rfl) ?_
              refine wl_v (x_pickF (tmB rfl rfl) rfl ev_c) ?_
              refine wl_v (x_move (tmB rfl rfl)) ?_
              refine wl_s rfl (want_n rfl rfl rfl rfl rfl) ?_
              refine wl_s rfl (want_n rfl rfl rfl rfl rfl) ?_
              refine wl_s rfl (want_n rfl rfl rfl rfl rfl) ?_
              refine wl_s rfl (want_n rfl rfl rfl rfl rfl) ?_
              refine wl_s rfl (want_n rfl rfl rfl rfl rfl) ?_
              refine wl_v (x_pickF (tmB rfl rfl) rfl ev_c) ?_
              refine wl_v (x_move (tmB rfl rfl)) ?_
              refine wl_s rfl (want_n rfl rfl rfl rfl rfl) ?_
              refine wl_s rfl (want_n rfl rfl rfl rfl rfl) ?_
              refine wl_s rfl (want_n rfl rfl rfl rfl rfl) ?_
              refine wl_s rfl (want_n rfl rfl rfl rfl rfl) ?_
              refine wl_s rfl (want_n rfl rfl rfl rfl rfl) ?_
              refine wl_v (x_pickF (tmB rfl rfl) rfl ev_c) ?_
              refine wl_v (x_move (tmB rfl rfl)) ?_
              refine wl_s rfl (want_n rfl rfl rfl rfl rfl) ?_
              refine wl_s rfl (want_n rfl rfl rfl rfl rfl) ?_
              refine wl_s rfl (want_n rfl rfl rfl rfl rfl) ?_
              refine wl_s rfl (want_n rfl rfl rfl rfl rfl) ?_
              refine wl_s rfl (want_n rfl rfl rfl rfl rfl) ?_
              refine wl_v (x_pickF (tmB rfl rfl) rfl ev_c) ?_
              refine wl_v (x_move (tmB rfl rfl)) ?_
              refine wl_s rfl (want_n rfl rfl rfl rfl rfl) ?_
              refine wl_s rfl (want_n rfl rfl rfl rfl rfl) ?_
              refine wl_s rfl (want_n rfl rfl rfl rfl rfl) ?_
              refine wl_s rfl (want_n rfl rfl rfl rfl rfl) ?_
              refine wl_s rfl (want_n rfl rfl rfl rfl rfl) ?_
              refine wl_s rfl (want_n rfl rfl rfl rfl rfl) ?_
              refine wl_s rfl (want_n rfl rfl rfl rfl rfl) ?_
              refine wl_v (x_pickF (tmB rfl rfl) rfl ev_c) ?_
              refine wl_v (x_assign (tmB rfl rfl)) ?_
              refine wl_nil ?_
              refine then_n (hK4 _ _ ?_); clear hK4 K4
              refine wp_ret ?_
              refine ret1 rfl (.tmp rfl (show _ = Value.bool _ from rfl)) ?_
              exact ⟨by simp, hS.kp⟩
          have hg2_19' := hg2_19; (try simp only [nrm] at hg2_19'); try (exfalso; first | with_reducible exact absurd hg2_19 Bool.false_ne_true | with_reducible exact absurd hg2_19.symm Bool.false_ne_true | omega | (simp at hg2_19; done))
          all_goals
           refine wl_s rfl (want_n rfl rfl rfl rfl (by rw [hg2_19]; rfl)) ?_
           refine wl_s rfl (want_n rfl rfl rfl rfl (by rw [hg2_19]; rfl)) ?_
           refine wl_s rfl (want_n rfl rfl rfl rfl (by rw [hg2_19]; rfl)) ?_
           refine wl_s rfl (want_n rfl rfl rfl rfl (by rw [hg2_19]; rfl)) ?_
           refine wl_s rfl (want_n rfl rfl rfl rfl (by rw [hg2_19]; rfl)) ?_
           refine wl_v (x_pickF (tmB rfl rfl) hg2_19 ev_c) ?_
           refine wl_v (x_move (tmB rfl rfl)) ?_
           refine wl_s rfl (want_n rfl rfl rfl rfl rfl) ?_
           refine wl_s rfl (want_n rfl rfl rfl rfl rfl) ?_
           refine wl_s rfl (want_n rfl rfl rfl rfl rfl) ?_
           refine wl_s rfl (want_n rfl rfl rfl rfl rfl) ?_
           refine wl_s rfl (want_n rfl rfl rfl rfl rfl) ?_
           refine wl_v (x_pickF (tmB rfl rfl) rfl ev_c) ?_
           refine wl_v (x_move (tmB rfl rfl)) ?_
           refine wl_s rfl (want_n rfl rfl rfl rfl rfl) ?_
           refine wl_s rfl (want_n rfl rfl rfl rfl rfl) ?_
           refine wl_s rfl (want_n rfl rfl rfl rfl rfl) ?_
           refine wl_s rfl (want_n rfl rfl rfl rfl rfl) ?_
           refine wl_s rfl (want_n rfl rfl rfl rfl rfl) ?_
           refine wl_v (x_pickF (tmB rfl rfl) rfl ev_c) ?_
           refine wl_v (x_move (tmB rfl rfl)) ?_
           refine wl_s rfl (want_n rfl rfl rfl rfl rfl) ?_
           refine wl_s rfl (want_n rfl rfl rfl rfl rfl) ?_
           refine wl_s rfl (want_n rfl rfl rfl rfl rfl) ?_
           refine wl_s rfl (want_n rfl rfl rfl rfl rfl) ?_
           refine wl_s rfl (want_n rfl rfl rfl rfl rfl) ?_
           refine wl_v (x_pickF (tmB rfl rfl) rfl ev_c) ?_
           refine wl_v (x_move (tmB rfl rfl)) ?_
           refine wl_s rfl (want_n rfl rfl rfl rfl rfl) ?_
           refine wl_s rfl (want_n rfl rfl rfl rfl rfl) ?_
           refine wl_s rfl (want_n rfl rfl rfl rfl rfl) ?_
           refine wl_s rfl (want_n rfl rfl rfl rfl rfl) ?_
           refine wl_s rfl (want_n rfl rfl rfl rfl rfl) ?_
           refine wl_v (x_pickF (tmB rfl rfl) rfl ev_c) ?_
           refine wl_v (x_move (tmB rfl rfl)) ?_
           refine wl_s rfl (want_n rfl rfl rfl rfl rfl) ?_
           refine wl_s rfl (want_n rfl rfl rfl rfl rfl) ?_
           refine wl_s rfl (want_n rfl rfl rfl rfl rfl) ?_
           refine wl_s rfl (want_n rfl rfl rfl rfl rfl) ?_
           refine wl_s rfl (want_n rfl rfl rfl rfl rfl) ?_
           refine wl_v (x_pickF (tmB rfl rfl) rfl ev_c) ?_
           refine wl_v (x_move (tmB rfl rfl)) ?_
           refine wl_s rfl (want_n rfl rfl rfl rfl rfl) ?_
           refine wl_s rfl (want_n rfl rfl rfl rfl rfl) ?_
           refine wl_s rfl (want_n rfl rfl rfl rfl rfl) ?_
           refine wl_s rfl (want_n rfl rfl rfl rfl rfl) ?_
           refine wl_s rfl (want_n rfl rfl rfl rfl rfl) ?_
           refine wl_v (x_pickF (tmB rfl rfl) rfl ev_c) ?_
           refine wl_v (x_move (tmB rfl rfl)) ?_
           refine wl_s rfl (want_n rfl rfl rfl rfl rfl) ?_
           refine wl_s rfl (want_n rfl rfl rfl rfl rfl) ?_
           refine wl_s rfl (want_n rfl rfl rfl rfl rfl) ?_
           refine wl_s rfl (want_n rfl rfl rfl rfl rfl) ?_
           refine wl_s rfl (want_n rfl rfl rfl rfl rfl) ?_
           refine wl_v (x_pickF (tmB rfl rfl) rfl ev_c) ?_
           refine wl_v (x_move (tmB rfl rfl)) ?_
           refine wl_s rfl (want_n rfl rfl rfl rfl rfl) ?_
           refine wl_s rfl (want_n rfl rfl rfl rfl rfl) ?_
           refine wl_s rfl (want_n rfl rfl rfl rfl rfl) ?_
           refine wl_s rfl (want_n rfl rfl rfl rfl rfl) ?_
           refine wl_s rfl (want_n rfl rfl rfl rfl rfl) ?_
           refine wl_s rfl (want_n rfl rfl rfl rfl rfl) ?_
           refine wl_s rfl (want_n rfl rfl rfl rfl rfl) ?_
           refine wl_v (x_pickF (tmB rfl rfl) rfl ev_c) ?_
           refine wl_v (x_assign (tmB rfl rfl)) ?_
           refine wl_nil ?_
           refine then_n (hK4 _ _ ?_); clear hK4 K4
           refine wp_ret ?_
           refine ret1 rfl (.tmp rfl (show _ = Value.bool _ from rfl)) ?_
           exact ⟨by simp, hS.kp⟩
       have hg2_12' := hg2_12; (try simp only [nrm] at hg2_12'); try (exfalso; first | with_reducible exact absurd hg2_12 Bool.false_ne_true | with_reducible exact absurd hg2_12.symm Bool.false_ne_true | omega | (simp at hg2_12; done))
       all_goals
        refine wl_s rfl (want_n rfl rfl rfl rfl (by rw [hg2_12]; rfl)) ?_
        refine wl_s rfl (want_n rfl rfl rfl rfl (by rw [hg2_12]; rfl)) ?_
        refine wl_s rfl (want_n rfl rfl rfl rfl (by rw [hg2_12]; rfl)) ?_
        refine wl_s rfl (want_n rfl rfl rfl rfl (by rw [hg2_12]; rfl)) ?_
        refine wl_s rfl (want_n rfl rfl rfl rfl (by rw [hg2_12]; rfl)) ?_
        refine wl_v (x_pickF (tmB rfl rfl) hg2_12 ev_c) ?_
        refine wl_v (x_move (tmB rfl rfl)) ?_
        refine wl_s rfl (want_n rfl rfl rfl rfl rfl) ?_
        refine wl_s rfl (want_n rfl rfl rfl rfl rfl) ?_
        refine wl_s rfl (want_n rfl rfl rfl rfl rfl) ?_
        refine wl_s rfl (want_n rfl rfl rfl rfl rfl) ?_
        refine wl_s rfl (want_n rfl rfl rfl rfl rfl) ?_
        refine wl_v (x_pickF (tmB rfl rfl) rfl ev_c) ?_
        refine wl_v (x_move (tmB rfl rfl)) ?_
        refine wl_s rfl (want_n rfl rfl rfl rfl rfl) ?_
        refine wl_s rfl (want_n rfl rfl rfl rfl rfl) ?_
        refine wl_s rfl (want_n rfl rfl rfl rfl rfl) ?_
        refine wl_s rfl (want_n rfl rfl rfl rfl rfl) ?_
        refine wl_s rfl (want_n rfl rfl rfl rfl rfl) ?_
        refine wl_v (x_pickF (tmB rfl rfl) rfl ev_c) ?_
        refine wl_v (x_move (tmB rfl rfl)) ?_
        refine wl_s rfl (want_n rfl rfl rfl rfl rfl) ?_
        refine wl_s rfl (want_n rfl rfl rfl rfl rfl) ?_
        refine wl_s rfl (want_n rfl rfl rfl rfl rfl) ?_
        refine wl_s rfl (want_n rfl rfl rfl rfl rfl) ?_
        refine wl_s rfl (want_n rfl rfl rfl rfl rfl) ?_
        refine wl_v (x_pickF (tmB rfl rfl) rfl ev_c) ?_
        refine wl_v (x_move (tmB rfl rfl)) ?_
        refine wl_s rfl (want_n rfl rfl rfl rfl rfl) ?_
        refine wl_s rfl (want_n rfl rfl rfl rfl rfl) ?_
        refine wl_s rfl (want_n rfl rfl rfl rfl rfl) ?_
        refine wl_s rfl (want_n rfl rfl rfl rfl rfl) ?_
        refine wl_s rfl (want_n rfl rfl rfl rfl rfl) ?_
        refine wl_v (x_pickF (tmB rfl rfl) rfl ev_c) ?_
        refine wl_v (x_move (tmB rfl rfl)) ?_
        refine wl_s rfl (want_n rfl rfl rfl rfl rfl) ?_
        refine wl_s rfl (want_n rfl rfl rfl rfl rfl) ?_
        refine wl_s rfl (want_n rfl rfl rfl rfl rfl) ?_
        refine wl_s rfl (want_n rfl rfl rfl rfl rfl) ?_
        refine wl_s rfl (want_n rfl rfl rfl rfl rfl) ?_
        refine wl_v (x_pickF (tmB rfl rfl) rfl ev_c) ?_
        refine wl_v (x_move (tmB rfl rfl)) ?_
        refine wl_s rfl (want_n rfl rfl rfl rfl rfl) ?_
        refine wl_s rfl (want_n rfl rfl rfl rfl rfl) ?_
        refine wl_s rfl (want_n rfl rfl rfl rfl rfl) ?_
        refine wl_s rfl (want_n rfl rfl rfl rfl rfl) ?_
        refine wl_s rfl (want_n rfl rfl rfl rfl rfl) ?_
        refine wl_v (x_pickF (tmB rfl rfl) rfl ev_c) ?_
        refine wl_v (x_move (tmB rfl rfl)) ?_
        refine wl_s rfl (want_n rfl rfl rfl rfl rfl) ?_
        refine wl_s rfl (want_n rfl rfl rfl rfl rfl) ?_
        refine wl_s rfl (want_n rfl rfl rfl rfl rfl) ?_
        refine wl_s rfl (want_n rfl rfl rfl rfl rfl) ?_
        refine wl_s rfl (want_n rfl rfl rfl rfl rfl) ?_
        refine wl_v (x_pickF (tmB rfl rfl) rfl ev_c) ?_
        refine wl_v (x_move (tmB rfl rfl)) ?_
        refine wl_s rfl (want_n rfl rfl rfl rfl rfl) ?_
        refine wl_s rfl (want_n rfl rfl rfl rfl rfl) ?_
        refine wl_s rfl (want_n rfl rfl rfl rfl rfl) ?_
        refine wl_s rfl (want_n rfl rfl rfl rfl rfl) ?_
        refine wl_s rfl (want_n rfl rfl rfl rfl rfl) ?_
        refine wl_v (x_pickF (tmB rfl rfl) rfl ev_c) ?_
        refine wl_v (x_move (tmB rfl rfl)) ?_
        refine wl_s rfl (want_n rfl rfl rfl rfl rfl) ?_
        refine wl_s rfl (want_n rfl rfl rfl rfl rfl) ?_
        refine wl_s rfl (want_n rfl rfl rfl rfl rfl) ?_
        refine wl_s rfl (want_n rfl rfl rfl rfl rfl) ?_
        refine wl_s rfl (want_n rfl rfl rfl rfl rfl) ?_
        refine wl_s rfl (want_n rfl rfl rfl rfl rfl) ?_
        refine wl_s rfl (want_n rfl rfl rfl rfl rfl) ?_
        refine wl_v (x_pickF (tmB rfl rfl) rfl ev_c) ?_
        refine wl_v (x_assign (tmB rfl rfl)) ?_
        refine wl_nil ?_
        refine then_n (hK4 _ _ ?_); clear hK4 K4
        refine wp_ret ?_
        refine ret1 rfl (.tmp rfl (show _ = Value.bool _ from rfl)) ?_
        exact ⟨by simp, hS.kp⟩
    have hg2_5' := hg2_5; (try simp only [nrm] at hg2_5'); try (exfalso; first | with_reducible exact absurd hg2_5 Bool.false_ne_true | with_reducible exact absurd hg2_5.symm Bool.false_ne_true | omega | (simp at hg2_5; done))
    all_goals
     refine wl_s rfl (want_n rfl rfl rfl rfl (by rw [hg2_5]; rfl)) ?_
     refine wl_s rfl (want_n rfl rfl rfl rfl (by rw [hg2_5]; rfl)) ?_
     refine wl_s rfl (want_n rfl rfl rfl rfl (by rw [hg2_5]; rfl)) ?_
     refine wl_s rfl (want_n rfl rfl rfl rfl (by rw [hg2_5]; rfl)) ?_
     refine wl_s rfl (want_n rfl rfl rfl rfl (by rw [hg2_5]; rfl)) ?_
     refine wl_v (x_pickF (tmB rfl rfl) hg2_5 ev_c) ?_
     refine wl_v (x_move (tmB rfl rfl)) ?_
     refine wl_s rfl (want_n rfl rfl rfl rfl rfl) ?_
     refine wl_s rfl (want_n rfl rfl rfl rfl rfl) ?_
     refine wl_s rfl (want_n rfl rfl rfl rfl rfl) ?_
     refine wl_s rfl (want_n rfl rfl rfl rfl rfl) ?_
     refine wl_s rfl (want_n rfl rfl rfl rfl rfl) ?_
     refine wl_v (x_pickF (tmB rfl rfl) rfl ev_c) ?_
     refine wl_v (x_move (tmB rfl rfl)) ?_
     refine wl_s rfl (want_n rfl rfl rfl rfl rfl) ?_
     refine wl_s rfl (want_n rfl rfl rfl rfl rfl) ?_
     refine wl_s rfl (want_n rfl rfl rfl rfl rfl) ?_
     refine wl_s rfl (want_n rfl rfl rfl rfl rfl) ?_
     refine wl_s rfl (want_n rfl rfl rfl rfl rfl) ?_
     refine wl_v (x_pickF (tmB rfl rfl) rfl ev_c) ?_
     refine wl_v (x_move (tmB rfl rfl)) ?_
     refine wl_s rfl (want_n rfl rfl rfl rfl rfl) ?_
     refine wl_s rfl (want_n rfl rfl rfl rfl rfl) ?_
     refine wl_s rfl (want_n rfl rfl rfl rfl rfl) ?_
     refine wl_s rfl (want_n rfl rfl rfl rfl rfl) ?_
     refine wl_s rfl (want_n rfl rfl rfl rfl rfl) ?_
     refine wl_v (x_pickF (tmB rfl rfl) rfl ev_c) ?_
     refine wl_v (x_move (tmB rfl rfl)) ?_
     refine wl_s rfl (want_n rfl rfl rfl rfl rfl) ?_
     refine wl_s rfl (want_n rfl rfl rfl rfl rfl) ?_
     refine wl_s rfl (want_n rfl rfl rfl rfl rfl) ?_
     refine wl_s rfl (want_n rfl rfl rfl rfl rfl) ?_
     refine wl_s rfl (want_n rfl rfl rfl rfl rfl) ?_
     refine wl_v (x_pickF (tmB rfl rfl) rfl ev_c) ?_
     refine wl_v (x_move (tmB rfl rfl)) ?_
     refine wl_s rfl (want_n rfl rfl rfl rfl rfl) ?_
     refine wl_s rfl (want_n rfl rfl rfl rfl rfl) ?_
     refine wl_s rfl (want_n rfl rfl rfl rfl rfl) ?_
     refine wl_s rfl (want_n rfl rfl rfl rfl rfl) ?_
     refine wl_s rfl (want_n rfl rfl rfl rfl rfl) ?_
     refine wl_v (x_pickF (tmB rfl rfl) rfl ev_c) ?_
     refine wl_v (x_move (tmB rfl rfl)) ?_
     refine wl_s rfl (want_n rfl rfl rfl rfl rfl) ?_
     refine wl_s rfl (want_n rfl rfl rfl rfl rfl) ?_
     refine wl_s rfl (want_n rfl rfl rfl rfl rfl) ?_
     refine wl_s rfl (want_n rfl rfl rfl rfl rfl) ?_
     refine wl_s rfl (want_n rfl rfl rfl rfl rfl) ?_
     refine wl_v (x_pickF (tmB rfl rfl) rfl ev_c) ?_
     refine wl_v (x_move (tmB rfl rfl)) ?_
     refine wl_s rfl (want_n rfl rfl rfl rfl rfl) ?_
     refine wl_s rfl (want_n rfl rfl rfl rfl rfl) ?_
     refine wl_s rfl (want_n rfl rfl rfl rfl rfl) ?_
     refine wl_s rfl (want_n rfl rfl rfl rfl rfl) ?_
     refine wl_s rfl (want_n rfl rfl rfl rfl rfl) ?_
     refine wl_v (x_pickF (tmB rfl rfl) rfl ev_c) ?_
     refine wl_v (x_move (tmB rfl rfl)) ?_
     refine wl_s rfl (want_n rfl rfl rfl rfl rfl) ?_
     refine wl_s rfl (want_n rfl rfl rfl rfl rfl) ?_
     refine wl_s rfl (want_n rfl rfl rfl rfl rfl) ?_
     refine wl_s rfl (want_n rfl rfl rfl rfl rfl) ?_
     refine wl_s rfl (want_n rfl rfl rfl rfl rfl) ?_
     refine wl_v (x_pickF (tmB rfl rfl) rfl ev_c) ?_
     refine wl_v (x_move (tmB rfl rfl)) ?_
     refine wl_s rfl (want_n rfl rfl rfl rfl rfl) ?_
     refine wl_s rfl (want_n rfl rfl rfl rfl rfl) ?_
     refine wl_s rfl (want_n rfl rfl rfl rfl rfl) ?_
     refine wl_s rfl (want_n rfl rfl rfl rfl rfl) ?_
     refine wl_s rfl (want_n rfl rfl rfl rfl rfl) ?_
     refine wl_v (x_pickF (tmB rfl rfl) rfl ev_c) ?_
     refine wl_v (x_move (tmB rfl rfl)) ?_
     refine wl_s rfl (want_n rfl rfl rfl rfl rfl) ?_
     refine wl_s rfl (want_n rfl rfl rfl rfl rfl) ?_
     refine wl_s rfl (want_n rfl rfl rfl rfl rfl) ?_
     refine wl_s rfl (want_n rfl rfl rfl rfl rfl) ?_
     refine wl_s rfl (want_n rfl rfl rfl rfl rfl) ?_
     refine wl_s rfl (want_n rfl rfl rfl rfl rfl) ?_
     refine wl_s rfl (want_n rfl rfl rfl rfl rfl) ?_
     refine wl_v (x_pickF (tmB rfl rfl) rfl ev_c) ?_
     refine wl_v (x_assign (tmB rfl rfl)) ?_
     refine wl_nil ?_
     refine then_n (hK4 _ _ ?_); clear hK4 K4
     refine wp_ret ?_
     refine ret1 rfl (.tmp rfl (show _ = Value.bool _ from rfl)) ?_
     exact ⟨by simp, hS.kp⟩
set_option maxRecDepth 100000 in
set_option maxHeartbeats 4000000 in
theorem of04_c (a1 : Nat) (a2 : Int) (a3 : Nat) (a4 a5 : Bool) (a6 : Int) (a7 a8 a9 : Nat) (s d : Ad) (O : Option Addr) (m c : Nat) (w0 : World) :
    Calls Try.prog 23 #[.agg (hdV a1 a2 a3 a4 a5 a6 a7 a8 a9 s d O m c).toArray] w0 fun e w' => e = .returned (.agg (hdV a1 a2 a3 a4 a5 a6 a7 a8 a9 s d O m c).toArray) ∧ Kp [] w0 w' := by
  have hS := St.sv w0
  refine ent (n := 28) Try.func23 rfl rfl ?_
  refine wp_seq_k ?_; intro K1 hK1
  refine wlit ?_
  refine wl_e rfl ?_; intro K hK
  refine ow_box hS (tmA rfl rfl) rfl ?_
  clear hS; intro g0_0 w hg0_0 hS
  refine hK _ _ ?_; clear hK K
  refine wl_e rfl ?_; intro K hK
  refine ow_alloc hS tz_33 rfl ?_
  clear hS; intro g0_1 w hg0_1 hS
  refine hK _ _ ?_; clear hK K
  refine wl_nil ?_
  refine then_n (hK1 _ _ ?_); clear hK1 K1
  refine wp_seq_k ?_; intro K2 hK2
  refine wlit ?_
  refine wl_v (x_fa 0 Try.underlying29 rfl rfl ts_5 (tmP rfl rfl)) ?_
  first
   | refine wl_v (x_load Try.underlying5 rfl (tmP rfl rfl) (cellB hS.ok 1 rfl rfl)) ?_
   | refine wl_v (x_load Try.underlying5 rfl (tmP rfl rfl) (cellB hS.ok 1 rfl (getm (by omega)))) ?_
  refine wl_v (x_fa 1 Try.underlying29 rfl rfl ts_3 (tmP rfl rfl)) ?_
  first
   | refine wl_v (x_load Try.underlying3 rfl (tmP rfl rfl) (cellB hS.ok 1 rfl rfl)) ?_
   | refine wl_v (x_load Try.underlying3 rfl (tmP rfl rfl) (cellB hS.ok 1 rfl (getm (by omega)))) ?_
  refine wl_v (x_fa 2 Try.underlying29 rfl rfl ts_24 (tmP rfl rfl)) ?_
  first
   | refine wl_v (x_load Try.underlying24 rfl (tmP rfl rfl) (cellB hS.ok 1 rfl rfl)) ?_
   | refine wl_v (x_load Try.underlying24 rfl (tmP rfl rfl) (cellB hS.ok 1 rfl (getm (by omega)))) ?_
  refine wl_v (x_fa 3 Try.underlying29 rfl rfl ts_4 (tmP rfl rfl)) ?_
  first
   | refine wl_v (x_load Try.underlying4 rfl (tmP rfl rfl) (cellB hS.ok 1 rfl rfl)) ?_
   | refine wl_v (x_load Try.underlying4 rfl (tmP rfl rfl) (cellB hS.ok 1 rfl (getm (by omega)))) ?_
  refine wl_v (x_fa 4 Try.underlying29 rfl rfl ts_4 (tmP rfl rfl)) ?_
  first
   | refine wl_v (x_load Try.underlying4 rfl (tmP rfl rfl) (cellB hS.ok 1 rfl rfl)) ?_
   | refine wl_v (x_load Try.underlying4 rfl (tmP rfl rfl) (cellB hS.ok 1 rfl (getm (by omega)))) ?_
  refine wl_v (x_fa 5 Try.underlying29 rfl rfl ts_3 (tmP rfl rfl)) ?_
  first
   | refine wl_v (x_load Try.underlying3 rfl (tmP rfl rfl) (cellB hS.ok 1 rfl rfl)) ?_
   | refine wl_v (x_load Try.underlying3 rfl (tmP rfl rfl) (cellB hS.ok 1 rfl (getm (by omega)))) ?_
  refine wl_v (x_fa 6 Try.underlying29 rfl rfl ts_5 (tmP rfl rfl)) ?_
  first
   | refine wl_v (x_load Try.underlying5 rfl (tmP rfl rfl) (cellB hS.ok 1 rfl rfl)) ?_
   | refine wl_v (x_load Try.underlying5 rfl (tmP rfl rfl) (cellB hS.ok 1 rfl (getm (by omega)))) ?_
  refine wl_v (x_fa 7 Try.underlying29 rfl rfl ts_5 (tmP rfl rfl)) ?_
  first
   | refine wl_v (x_load Try.underlying5 rfl (tmP rfl rfl) (cellB hS.ok 1 rfl rfl)) ?_
   | refine wl_v (x_load Try.underlying5 rfl (tmP rfl rfl) (cellB hS.ok 1 rfl (getm (by omega)))) ?_
  refine wl_v (x_fa 8 Try.underlying29 rfl rfl ts_24 (tmP rfl rfl)) ?_
  first
   | refine wl_v (x_load Try.underlying24 rfl (tmP rfl rfl) (cellB hS.ok 1 rfl rfl)) ?_
   | refine wl_v (x_load Try.underlying24 rfl (tmP rfl rfl) (cellB hS.ok 1 rfl (getm (by omega)))) ?_
  refine wl_v (x_fa 9 Try.underlying29 rfl rfl ts_27 (tmP rfl rfl)) ?_
  refine wl_v (x_loadA (cs := [_, _, _]) Try.underlying27 rfl ts_27 (tmP rfl rfl) (rangeB hS.ok 1 rfl rfl)) ?_
  refine wl_v (x_fa 12 Try.underlying29 rfl rfl ts_27 (tmP rfl rfl)) ?_
  refine wl_v (x_loadA (cs := [_, _, _]) Try.underlying27 rfl ts_27 (tmP rfl rfl) (rangeB hS.ok 1 rfl rfl)) ?_
  refine wl_v (x_fa 15 Try.underlying29 rfl rfl ts_22 (tmP rfl rfl)) ?_
  first
   | refine wl_v (x_load Try.underlying22 rfl (tmP rfl rfl) (cellB hS.ok 1 rfl rfl)) ?_
   | refine wl_v (x_load Try.underlying22 rfl (tmP rfl rfl) (cellB hS.ok 1 rfl (getm (by omega)))) ?_
  refine wl_v (x_build (bc_take (tmI rfl rfl) <| bc_take (tmI rfl rfl) <| bc_take (tmI rfl rfl) <| bc_take (tmB rfl rfl) <| bc_take (tmB rfl rfl) <| bc_take (tmI rfl rfl) <| bc_take (tmI rfl rfl) <| bc_take (tmI rfl rfl) <| bc_take (tmI rfl rfl) <| bc_takeL (tmA rfl rfl) <| bc_takeL (tmA rfl rfl) <| bc_take (tmS rfl rfl) <| bc_nil) (by kernel_rfl)) ?_
  refine wl_e rfl ?_; intro K hK
  refine ow_storeA hS 0 rfl ts_33 (tmP rfl rfl) (tmA rfl rfl) rfl rfl rfl ?_
  clear hS; intro w hS
  try replace hS := St.nm (M' := [.blk _ _ [_, _, _, _, _, _, _, _, _, _, _, _, _, _, _, _], .blk _ _ [_, _, _, _, _, _, _, _, _, _, _, _, _, _, _, _], _]) hS rfl
  refine hK _ _ ?_; clear hK K
  refine wl_nil ?_
  refine then_n (hK2 _ _ ?_); clear hK2 K2
  refine wp_ret ?_
  refine ret1 rfl (.cell rfl rfl (load_rowB (cs := [_, _, _, _, _, _, _, _, _, _, _, _, _, _, _, _]) hS.ok 0 rfl Try.underlying33 rfl ts_33 rfl)) ?_
  exact ⟨rfl, hS.kp⟩
set_option maxRecDepth 100000 in
set_option maxHeartbeats 4000000 in
theorem to04_c (a1 : Nat) (a2 : Int) (a3 : Nat) (a4 a5 : Bool) (a6 : Int) (a7 a8 a9 : Nat) (s d : Ad) (O : Option Addr) (m c : Nat) (w0 : World) :
    Calls Try.prog 24 #[.agg (hdV a1 a2 a3 a4 a5 a6 a7 a8 a9 s d O m c).toArray] w0 fun e w' => e = .returned (.agg (hdV a1 a2 a3 a4 a5 a6 a7 a8 a9 s d O m c).toArray) ∧ Kp [] w0 w' := by
  have hS := St.sv w0
  refine ent (n := 28) Try.func24 rfl rfl ?_
  refine wp_seq_k ?_; intro K1 hK1
  refine wlit ?_
  refine wl_e rfl ?_; intro K hK
  refine ow_box hS (tmA rfl rfl) rfl ?_
  clear hS; intro g0_0 w hg0_0 hS
  refine hK _ _ ?_; clear hK K
  refine wl_e rfl ?_; intro K hK
  refine ow_alloc hS tz_29 rfl ?_
  clear hS; intro g0_1 w hg0_1 hS
  refine hK _ _ ?_; clear hK K
  refine wl_nil ?_
  refine then_n (hK1 _ _ ?_); clear hK1 K1
  refine wp_seq_k ?_; intro K2 hK2
  refine wlit ?_
  refine wl_v (x_fa 0 Try.underlying33 rfl rfl ts_5 (tmP rfl rfl)) ?_
  first
   | refine wl_v (x_load Try.underlying5 rfl (tmP rfl rfl) (cellB hS.ok 1 rfl rfl)) ?_
   | refine wl_v (x_load Try.underlying5 rfl (tmP rfl rfl) (cellB hS.ok 1 rfl (getm (by omega)))) ?_
  refine wl_v (x_fa 1 Try.underlying33 rfl rfl ts_3 (tmP rfl rfl)) ?_
  first
   | refine wl_v (x_load Try.underlying3 rfl (tmP rfl rfl) (cellB hS.ok 1 rfl rfl)) ?_
   | refine wl_v (x_load Try.underlying3 rfl (tmP rfl rfl) (cellB hS.ok 1 rfl (getm (by omega)))) ?_
  refine wl_v (x_fa 2 Try.underlying33 rfl rfl ts_24 (tmP rfl rfl)) ?_
  first
   | refine wl_v (x_load Try.underlying24 rfl (tmP rfl rfl) (cellB hS.ok 1 rfl rfl)) ?_
   | refine wl_v (x_load Try.underlying24 rfl (tmP rfl rfl) (cellB hS.ok 1 rfl (getm (by omega)))) ?_
  refine wl_v (x_fa 3 Try.underlying33 rfl rfl ts_4 (tmP rfl rfl)) ?_
  first
   | refine wl_v (x_load Try.underlying4 rfl (tmP rfl rfl) (cellB hS.ok 1 rfl rfl)) ?_
   | refine wl_v (x_load Try.underlying4 rfl (tmP rfl rfl) (cellB hS.ok 1 rfl (getm (by omega)))) ?_
  refine wl_v (x_fa 4 Try.underlying33 rfl rfl ts_4 (tmP rfl rfl)) ?_
  first
   | refine wl_v (x_load Try.underlying4 rfl (tmP rfl rfl) (cellB hS.ok 1 rfl rfl)) ?_
   | refine wl_v (x_load Try.underlying4 rfl (tmP rfl rfl) (cellB hS.ok 1 rfl (getm (by omega)))) ?_
  refine wl_v (x_fa 5 Try.underlying33 rfl rfl ts_3 (tmP rfl rfl)) ?_
  first
   | refine wl_v (x_load Try.underlying3 rfl (tmP rfl rfl) (cellB hS.ok 1 rfl rfl)) ?_
   | refine wl_v (x_load Try.underlying3 rfl (tmP rfl rfl) (cellB hS.ok 1 rfl (getm (by omega)))) ?_
  refine wl_v (x_fa 6 Try.underlying33 rfl rfl ts_5 (tmP rfl rfl)) ?_
  first
   | refine wl_v (x_load Try.underlying5 rfl (tmP rfl rfl) (cellB hS.ok 1 rfl rfl)) ?_
   | refine wl_v (x_load Try.underlying5 rfl (tmP rfl rfl) (cellB hS.ok 1 rfl (getm (by omega)))) ?_
  refine wl_v (x_fa 7 Try.underlying33 rfl rfl ts_5 (tmP rfl rfl)) ?_
  first
   | refine wl_v (x_load Try.underlying5 rfl (tmP rfl rfl) (cellB hS.ok 1 rfl rfl)) ?_
   | refine wl_v (x_load Try.underlying5 rfl (tmP rfl rfl) (cellB hS.ok 1 rfl (getm (by omega)))) ?_
  refine wl_v (x_fa 8 Try.underlying33 rfl rfl ts_24 (tmP rfl rfl)) ?_
  first
   | refine wl_v (x_load Try.underlying24 rfl (tmP rfl rfl) (cellB hS.ok 1 rfl rfl)) ?_
   | refine wl_v (x_load Try.underlying24 rfl (tmP rfl rfl) (cellB hS.ok 1 rfl (getm (by omega)))) ?_
  refine wl_v (x_fa 9 Try.underlying33 rfl rfl ts_27 (tmP rfl rfl)) ?_
  refine wl_v (x_loadA (cs := [_, _, _]) Try.underlying27 rfl ts_27 (tmP rfl rfl) (rangeB hS.ok 1 rfl rfl)) ?_
  refine wl_v (x_fa 12 Try.underlying33 rfl rfl ts_27 (tmP rfl rfl)) ?_
  refine wl_v (x_loadA (cs := [_, _, _]) Try.underlying27 rfl ts_27 (tmP rfl rfl) (rangeB hS.ok 1 rfl rfl)) ?_
  refine wl_v (x_fa 15 Try.underlying33 rfl rfl ts_22 (tmP rfl rfl)) ?_
  first
   | refine wl_v (x_load Try.underlying22 rfl (tmP rfl rfl) (cellB hS.ok 1 rfl rfl)) ?_
   | refine wl_v (x_load Try.underlying22 rfl (tmP rfl rfl) (cellB hS.ok 1 rfl (getm (by omega)))) ?_
  refine wl_v (x_build (bc_take (tmI rfl rfl) <| bc_take (tmI rfl rfl) <| bc_take (tmI rfl rfl) <| bc_take (tmB rfl rfl) <| bc_take (tmB rfl rfl) <| bc_take (tmI rfl rfl) <| bc_take (tmI rfl rfl) <| bc_take (tmI rfl rfl) <| bc_take (tmI rfl rfl) <| bc_takeL (tmA rfl rfl) <| bc_takeL (tmA rfl rfl) <| bc_take (tmS rfl rfl) <| bc_nil) (by kernel_rfl)) ?_
  refine wl_e rfl ?_; intro K hK
  refine ow_storeA hS 0 rfl ts_29 (tmP rfl rfl) (tmA rfl rfl) rfl rfl rfl ?_
  clear hS; intro w hS
  try replace hS := St.nm (M' := [.blk _ _ [_, _, _, _, _, _, _, _, _, _, _, _, _, _, _, _], .blk _ _ [_, _, _, _, _, _, _, _, _, _, _, _, _, _, _, _], _]) hS rfl
  refine hK _ _ ?_; clear hK K
  refine wl_nil ?_
  refine then_n (hK2 _ _ ?_); clear hK2 K2
  refine wp_ret ?_
  refine ret1 rfl (.cell rfl rfl (load_rowB (cs := [_, _, _, _, _, _, _, _, _, _, _, _, _, _, _, _]) hS.ok 0 rfl Try.underlying29 rfl ts_29 rfl)) ?_
  exact ⟨rfl, hS.kp⟩
end Go.Proofs.Ytfagblcepibliaa
