/- tcp: Same, Of, To, Stamps, the law's awake, by contract. Conditions: none but bounds. -/
import Derived.Test.YtmekadkmmddocaaDoorTcpR
namespace Go.Proofs.YtmekadkmmddocaaDoor
open Go.RowKit

set_option maxRecDepth 100000 in
set_option maxHeartbeats 4000000 in
theorem same06_c (a1 a2 a3 a4 a5 a6 a7 a8 : Nat) (O : Option Addr) (m c : Nat) (L : Option Addr) (k d : Nat) (b1 b2 b3 b4 b5 b6 b7 b8 : Nat) (O' : Option Addr) (m' c' : Nat) (L' : Option Addr) (k' d' : Nat) (o x o' x' : List Nat) (w0 : World)
    (h1 : View w0 w0.heap.size O (o.map u8v)) (e1 : o.length = m) (f1 : Bytes o) (h2 : View w0 w0.heap.size L (x.map u8v)) (e2 : x.length = k) (f2 : Bytes x) (h3 : View w0 w0.heap.size O' (o'.map u8v)) (e3 : o'.length = m') (f3 : Bytes o') (h4 : View w0 w0.heap.size L' (x'.map u8v)) (e4 : x'.length = k') (f4 : Bytes x') :
    Calls Tryd.prog 27 #[.agg (segV a1 a2 a3 a4 a5 a6 a7 a8 O m c L k d).toArray, .agg (segV b1 b2 b3 b4 b5 b6 b7 b8 O' m' c' L' k' d').toArray] w0 fun e w' => e = .returned (.bool (decide (a1 = b1 ∧ a2 = b2 ∧ a3 = b3 ∧ a4 = b4 ∧ a5 = b5 ∧ a6 = b6 ∧ a7 = b7 ∧ a8 = b8 ∧ o = o' ∧ x = x'))) ∧ Kp [] w0 w' := by
  have hS := ((((St.sv w0).vcons rfl h1).vcons rfl h2).vcons rfl h3).vcons rfl h4
  refine ent (n := 77) Tryd.func27 rfl rfl ?_
  refine wp_seq_k ?_; intro K1 hK1
  refine wlit ?_
  refine wl_e rfl ?_; intro K hK
  refine ow_box hS (tmA rfl rfl) rfl ?_
  clear hS; intro g0_0 w hg0_0 hS
  refine hK _ _ ?_; clear hK K
  refine wl_e rfl ?_; intro K hK
  refine ow_box hS (tmA rfl rfl) rfl ?_
  clear hS; intro g0_1 w hg0_1 hS
  refine hK _ _ ?_; clear hK K
  refine wl_v (x_assign ev_c) ?_
  refine wl_nil ?_
  refine then_n (hK1 _ _ ?_); clear hK1 K1
  refine wp_seq_k ?_; intro K2 hK2
  refine wlit ?_
  refine wl_v (x_fa 0 Tryd.underlying42 rfl rfl ts_27 (tmP rfl rfl)) ?_
  refine wl_v (x_load Tryd.underlying27 rfl (tmP rfl rfl) (cellB hS.ok 1 rfl rfl)) ?_
  refine wl_v (x_fa 0 Tryd.underlying42 rfl rfl ts_27 (tmP rfl rfl)) ?_
  refine wl_v (x_load Tryd.underlying27 rfl (tmP rfl rfl) (cellB hS.ok 0 rfl rfl)) ?_
  refine wl_v (x_eql (tmI rfl rfl) (tmI rfl rfl)) ?_
  refine wl_v (x_move (tmB rfl rfl)) ?_
  refine gs_wl (tm (t := 10) rfl) (fun hg1_5 => ?_) (fun hg1_5 => ?_)
  · have hg1_5' := hg1_5; (try simp only [nrm] at hg1_5')
    all_goals
     refine wl_gv (want_y rfl rfl rfl rfl (by rw [hg1_5]; rfl)) (x_fa 1 Tryd.underlying42 rfl rfl ts_27 (tmP rfl rfl)) ?_
     refine wl_gv (want_y rfl rfl rfl rfl (by rw [hg1_5]; rfl)) (x_load Tryd.underlying27 rfl (tmP rfl rfl) (cellB hS.ok 1 rfl rfl)) ?_
     refine wl_gv (want_y rfl rfl rfl rfl (by rw [hg1_5]; rfl)) (x_fa 1 Tryd.underlying42 rfl rfl ts_27 (tmP rfl rfl)) ?_
     refine wl_gv (want_y rfl rfl rfl rfl (by rw [hg1_5]; rfl)) (x_load Tryd.underlying27 rfl (tmP rfl rfl) (cellB hS.ok 0 rfl rfl)) ?_
     refine wl_gv (want_y rfl rfl rfl rfl (by rw [hg1_5]; rfl)) (x_eql (tmI rfl rfl) (tmI rfl rfl)) ?_
     refine wl_v (x_pickT (tmB rfl rfl) hg1_5 (tmB rfl rfl)) ?_
     refine wl_v (x_move (tmB rfl rfl)) ?_
     refine gs_wl (tm (t := 17) rfl) (fun hg1_12 => ?_) (fun hg1_12 => ?_)
     · have hg1_12' := hg1_12; (try simp only [nrm] at hg1_12')
       all_goals
        refine wl_gv (want_y rfl rfl rfl rfl (by rw [hg1_12]; rfl)) (x_fa 2 Tryd.underlying42 rfl rfl ts_30 (tmP rfl rfl)) ?_
        refine wl_gv (want_y rfl rfl rfl rfl (by rw [hg1_12]; rfl)) (x_load Tryd.underlying30 rfl (tmP rfl rfl) (cellB hS.ok 1 rfl rfl)) ?_
        refine wl_gv (want_y rfl rfl rfl rfl (by rw [hg1_12]; rfl)) (x_fa 2 Tryd.underlying42 rfl rfl ts_30 (tmP rfl rfl)) ?_
        refine wl_gv (want_y rfl rfl rfl rfl (by rw [hg1_12]; rfl)) (x_load Tryd.underlying30 rfl (tmP rfl rfl) (cellB hS.ok 0 rfl rfl)) ?_
        refine wl_gv (want_y rfl rfl rfl rfl (by rw [hg1_12]; rfl)) (x_eql (tmI rfl rfl) (tmI rfl rfl)) ?_
        refine wl_v (x_pickT (tmB rfl rfl) hg1_12 (tmB rfl rfl)) ?_
        refine wl_v (x_move (tmB rfl rfl)) ?_
        refine gs_wl (tm (t := 24) rfl) (fun hg1_19 => ?_) (fun hg1_19 => ?_)
        · have hg1_19' := hg1_19; (try simp only [nrm] at hg1_19')
          all_goals
           refine wl_gv (want_y rfl rfl rfl rfl (by rw [hg1_19]; rfl)) (x_fa 3 Tryd.underlying42 rfl rfl ts_30 (tmP rfl rfl)) ?_
           refine wl_gv (want_y rfl rfl rfl rfl (by rw [hg1_19]; rfl)) (x_load Tryd.underlying30 rfl (tmP rfl rfl) (cellB hS.ok 1 rfl rfl)) ?_
           refine wl_gv (want_y rfl rfl rfl rfl (by rw [hg1_19]; rfl)) (x_fa 3 Tryd.underlying42 rfl rfl ts_30 (tmP rfl rfl)) ?_
           refine wl_gv (want_y rfl rfl rfl rfl (by rw [hg1_19]; rfl)) (x_load Tryd.underlying30 rfl (tmP rfl rfl) (cellB hS.ok 0 rfl rfl)) ?_
           refine wl_gv (want_y rfl rfl rfl rfl (by rw [hg1_19]; rfl)) (x_eql (tmI rfl rfl) (tmI rfl rfl)) ?_
           refine wl_v (x_pickT (tmB rfl rfl) hg1_19 (tmB rfl rfl)) ?_
           refine wl_v (x_move (tmB rfl rfl)) ?_
           refine gs_wl (tm (t := 31) rfl) (fun hg1_26 => ?_) (fun hg1_26 => ?_)
           · have hg1_26' := hg1_26; (try simp only [nrm] at hg1_26')
             all_goals
              refine wl_gv (want_y rfl rfl rfl rfl (by rw [hg1_26]; rfl)) (x_fa 4 Tryd.underlying42 rfl rfl ts_5 (tmP rfl rfl)) ?_
              refine wl_gv (want_y rfl rfl rfl rfl (by rw [hg1_26]; rfl)) (x_load Tryd.underlying5 rfl (tmP rfl rfl) (cellB hS.ok 1 rfl rfl)) ?_
              refine wl_gv (want_y rfl rfl rfl rfl (by rw [hg1_26]; rfl)) (x_fa 4 Tryd.underlying42 rfl rfl ts_5 (tmP rfl rfl)) ?_
              refine wl_gv (want_y rfl rfl rfl rfl (by rw [hg1_26]; rfl)) (x_load Tryd.underlying5 rfl (tmP rfl rfl) (cellB hS.ok 0 rfl rfl)) ?_
              refine wl_gv (want_y rfl rfl rfl rfl (by rw [hg1_26]; rfl)) (x_eql (tmI rfl rfl) (tmI rfl rfl)) ?_
              refine wl_v (x_pickT (tmB rfl rfl) hg1_26 (tmB rfl rfl)) ?_
              refine wl_v (x_move (tmB rfl rfl)) ?_
              refine gs_wl (tm (t := 38) rfl) (fun hg1_33 => ?_) (fun hg1_33 => ?_)
              · have hg1_33' := hg1_33; (try simp only [nrm] at hg1_33')
                all_goals
                 refine wl_gv (want_y rfl rfl rfl rfl (by rw [hg1_33]; rfl)) (x_fa 5 Tryd.underlying42 rfl rfl ts_27 (tmP rfl rfl)) ?_
                 refine wl_gv (want_y rfl rfl rfl rfl (by rw [hg1_33]; rfl)) (x_load Tryd.underlying27 rfl (tmP rfl rfl) (cellB hS.ok 1 rfl rfl)) ?_
                 refine wl_gv (want_y rfl rfl rfl rfl (by rw [hg1_33]; rfl)) (x_fa 5 Tryd.underlying42 rfl rfl ts_27 (tmP rfl rfl)) ?_
                 refine wl_gv (want_y rfl rfl rfl rfl (by rw [hg1_33]; rfl)) (x_load Tryd.underlying27 rfl (tmP rfl rfl) (cellB hS.ok 0 rfl rfl)) ?_
                 refine wl_gv (want_y rfl rfl rfl rfl (by rw [hg1_33]; rfl)) (x_eql (tmI rfl rfl) (tmI rfl rfl)) ?_
                 refine wl_v (x_pickT (tmB rfl rfl) hg1_33 (tmB rfl rfl)) ?_
                 refine wl_v (x_move (tmB rfl rfl)) ?_
                 refine gs_wl (tm (t := 45) rfl) (fun hg1_40 => ?_) (fun hg1_40 => ?_)
                 · have hg1_40' := hg1_40; (try simp only [nrm] at hg1_40')
                   all_goals
                    refine wl_gv (want_y rfl rfl rfl rfl (by rw [hg1_40]; rfl)) (x_fa 6 Tryd.underlying42 rfl rfl ts_27 (tmP rfl rfl)) ?_
                    refine wl_gv (want_y rfl rfl rfl rfl (by rw [hg1_40]; rfl)) (x_load Tryd.underlying27 rfl (tmP rfl rfl) (cellB hS.ok 1 rfl rfl)) ?_
                    refine wl_gv (want_y rfl rfl rfl rfl (by rw [hg1_40]; rfl)) (x_fa 6 Tryd.underlying42 rfl rfl ts_27 (tmP rfl rfl)) ?_
                    refine wl_gv (want_y rfl rfl rfl rfl (by rw [hg1_40]; rfl)) (x_load Tryd.underlying27 rfl (tmP rfl rfl) (cellB hS.ok 0 rfl rfl)) ?_
                    refine wl_gv (want_y rfl rfl rfl rfl (by rw [hg1_40]; rfl)) (x_eql (tmI rfl rfl) (tmI rfl rfl)) ?_
                    refine wl_v (x_pickT (tmB rfl rfl) hg1_40 (tmB rfl rfl)) ?_
                    refine wl_v (x_move (tmB rfl rfl)) ?_
                    refine gs_wl (tm (t := 52) rfl) (fun hg1_47 => ?_) (fun hg1_47 => ?_)
                    · have hg1_47' := hg1_47; (try simp only [nrm] at hg1_47')
                      all_goals
                       refine wl_gv (want_y rfl rfl rfl rfl (by rw [hg1_47]; rfl)) (x_fa 7 Tryd.underlying42 rfl rfl ts_27 (tmP rfl rfl)) ?_
                       refine wl_gv (want_y rfl rfl rfl rfl (by rw [hg1_47]; rfl)) (x_load Tryd.underlying27 rfl (tmP rfl rfl) (cellB hS.ok 1 rfl rfl)) ?_
                       refine wl_gv (want_y rfl rfl rfl rfl (by rw [hg1_47]; rfl)) (x_fa 7 Tryd.underlying42 rfl rfl ts_27 (tmP rfl rfl)) ?_
                       refine wl_gv (want_y rfl rfl rfl rfl (by rw [hg1_47]; rfl)) (x_load Tryd.underlying27 rfl (tmP rfl rfl) (cellB hS.ok 0 rfl rfl)) ?_
                       refine wl_gv (want_y rfl rfl rfl rfl (by rw [hg1_47]; rfl)) (x_eql (tmI rfl rfl) (tmI rfl rfl)) ?_
                       refine wl_v (x_pickT (tmB rfl rfl) hg1_47 (tmB rfl rfl)) ?_
                       refine wl_v (x_move (tmB rfl rfl)) ?_
                       refine gs_wl (tm (t := 59) rfl) (fun hg1_54 => ?_) (fun hg1_54 => ?_)
                       · have hg1_54' := hg1_54; (try simp only [nrm] at hg1_54')
                         all_goals
                          refine wl_gv (want_y rfl rfl rfl rfl (by rw [hg1_54]; rfl)) (x_fa 8 Tryd.underlying42 rfl rfl ts_22 (tmP rfl rfl)) ?_
                          refine wl_gv (want_y rfl rfl rfl rfl (by rw [hg1_54]; rfl)) (x_load Tryd.underlying22 rfl (tmP rfl rfl) (cellB hS.ok 1 rfl rfl)) ?_
                          refine wl_gv (want_y rfl rfl rfl rfl (by rw [hg1_54]; rfl)) (x_bstr Tryd.underlying22 Tryd.underlying5 Tryd.underlying9 (tmS rfl rfl) (viewV hS.ok 5 rfl) (by first | assumption | exact Bytes.nil | (repeat' (first | assumption | exact Bytes.nil | exact be_bytes _ _ | apply Bytes.append | apply Bytes.take | apply Bytes.drop | apply Bytes.replicate))) (by first | rfl | assumption | (simp; done) | (simp; omega) | omega)) ?_
                          refine wl_gv (want_y rfl rfl rfl rfl (by rw [hg1_54]; rfl)) (x_fa 8 Tryd.underlying42 rfl rfl ts_22 (tmP rfl rfl)) ?_
                          refine wl_gv (want_y rfl rfl rfl rfl (by rw [hg1_54]; rfl)) (x_load Tryd.underlying22 rfl (tmP rfl rfl) (cellB hS.ok 0 rfl rfl)) ?_
                          refine wl_gv (want_y rfl rfl rfl rfl (by rw [hg1_54]; rfl)) (x_bstr Tryd.underlying22 Tryd.underlying5 Tryd.underlying9 (tmS rfl rfl) (viewV hS.ok 3 rfl) (by first | assumption | exact Bytes.nil | (repeat' (first | assumption | exact Bytes.nil | exact be_bytes _ _ | apply Bytes.append | apply Bytes.take | apply Bytes.drop | apply Bytes.replicate))) (by first | rfl | assumption | (simp; done) | (simp; omega) | omega)) ?_
                          refine wl_gv (want_y rfl rfl rfl rfl (by rw [hg1_54]; rfl)) (x_Geql (tmG rfl rfl) (tmG rfl rfl) (by first | assumption | exact Bytes.nil | (repeat' (first | assumption | exact Bytes.nil | exact be_bytes _ _ | apply Bytes.append | apply Bytes.take | apply Bytes.drop | apply Bytes.replicate))) (by first | assumption | exact Bytes.nil | (repeat' (first | assumption | exact Bytes.nil | exact be_bytes _ _ | apply Bytes.append | apply Bytes.take | apply Bytes.drop | apply Bytes.replicate)))) ?_
                          refine wl_v (x_pickT (tmB rfl rfl) hg1_54 (tmB rfl rfl)) ?_
                          refine wl_v (x_move (tmB rfl rfl)) ?_
                          refine gs_wl (tm (t := 68) rfl) (fun hg1_63 => ?_) (fun hg1_63 => ?_)
                          · have hg1_63' := hg1_63; (try simp only [nrm] at hg1_63')
                            all_goals
                             refine wl_gv (want_y rfl rfl rfl rfl (by rw [hg1_63]; rfl)) (x_fa 9 Tryd.underlying42 rfl rfl ts_22 (tmP rfl rfl)) ?_
                             refine wl_gv (want_y rfl rfl rfl rfl (by rw [hg1_63]; rfl)) (x_load Tryd.underlying22 rfl (tmP rfl rfl) (cellB hS.ok 1 rfl rfl)) ?_
                             refine wl_gv (want_y rfl rfl rfl rfl (by rw [hg1_63]; rfl)) (x_bstr Tryd.underlying22 Tryd.underlying5 Tryd.underlying9 (tmS rfl rfl) (viewV hS.ok 4 rfl) (by first | assumption | exact Bytes.nil | (repeat' (first | assumption | exact Bytes.nil | exact be_bytes _ _ | apply Bytes.append | apply Bytes.take | apply Bytes.drop | apply Bytes.replicate))) (by first | rfl | assumption | (simp; done) | (simp; omega) | omega)) ?_
                             refine wl_gv (want_y rfl rfl rfl rfl (by rw [hg1_63]; rfl)) (x_fa 9 Tryd.underlying42 rfl rfl ts_22 (tmP rfl rfl)) ?_
                             refine wl_gv (want_y rfl rfl rfl rfl (by rw [hg1_63]; rfl)) (x_load Tryd.underlying22 rfl (tmP rfl rfl) (cellB hS.ok 0 rfl rfl)) ?_
                             refine wl_gv (want_y rfl rfl rfl rfl (by rw [hg1_63]; rfl)) (x_bstr Tryd.underlying22 Tryd.underlying5 Tryd.underlying9 (tmS rfl rfl) (viewV hS.ok 2 rfl) (by first | assumption | exact Bytes.nil | (repeat' (first | assumption | exact Bytes.nil | exact be_bytes _ _ | apply Bytes.append | apply Bytes.take | apply Bytes.drop | apply Bytes.replicate))) (by first | rfl | assumption | (simp; done) | (simp; omega) | omega)) ?_
                             refine wl_gv (want_y rfl rfl rfl rfl (by rw [hg1_63]; rfl)) (x_Geql (tmG rfl rfl) (tmG rfl rfl) (by first | assumption | exact Bytes.nil | (repeat' (first | assumption | exact Bytes.nil | exact be_bytes _ _ | apply Bytes.append | apply Bytes.take | apply Bytes.drop | apply Bytes.replicate))) (by first | assumption | exact Bytes.nil | (repeat' (first | assumption | exact Bytes.nil | exact be_bytes _ _ | apply Bytes.append | apply Bytes.take | apply Bytes.drop | apply Bytes.replicate)))) ?_
                             refine wl_v (x_pickT (tmB rfl rfl) hg1_63 (tmB rfl rfl)) ?_
                             refine wl_v (x_assign (tmB rfl rfl)) ?_
                             refine wl_nil ?_
                             refine then_n (hK2 _ _ ?_); clear hK2 K2
                             refine wp_ret ?_
                             refine ret1 rfl (.tmp rfl (show _ = Value.bool _ from rfl)) ?_
                             exact ⟨by simp [*], hS.kp⟩
                          have hg1_63' := hg1_63; (try simp only [nrm] at hg1_63')
                          all_goals
                           refine wl_s rfl (want_n rfl rfl rfl rfl (by rw [hg1_63]; rfl)) ?_
                           refine wl_s rfl (want_n rfl rfl rfl rfl (by rw [hg1_63]; rfl)) ?_
                           refine wl_s rfl (want_n rfl rfl rfl rfl (by rw [hg1_63]; rfl)) ?_
                           refine wl_s rfl (want_n rfl rfl rfl rfl (by rw [hg1_63]; rfl)) ?_
                           refine wl_s rfl (want_n rfl rfl rfl rfl (by rw [hg1_63]; rfl)) ?_
                           refine wl_s rfl (want_n rfl rfl rfl rfl (by rw [hg1_63]; rfl)) ?_
                           refine wl_s rfl (want_n rfl rfl rfl rfl (by rw [hg1_63]; rfl)) ?_
                           refine wl_v (x_pickF (tmB rfl rfl) hg1_63 ev_c) ?_
                           refine wl_v (x_assign (tmB rfl rfl)) ?_
                           refine wl_nil ?_
                           refine then_n (hK2 _ _ ?_); clear hK2 K2
                           refine wp_ret ?_
                           refine ret1 rfl (.tmp rfl (show _ = Value.bool _ from rfl)) ?_
                           exact ⟨by simp [*], hS.kp⟩
                       have hg1_54' := hg1_54; (try simp only [nrm] at hg1_54')
                       all_goals
                        refine wl_s rfl (want_n rfl rfl rfl rfl (by rw [hg1_54]; rfl)) ?_
                        refine wl_s rfl (want_n rfl rfl rfl rfl (by rw [hg1_54]; rfl)) ?_
                        refine wl_s rfl (want_n rfl rfl rfl rfl (by rw [hg1_54]; rfl)) ?_
                        refine wl_s rfl (want_n rfl rfl rfl rfl (by rw [hg1_54]; rfl)) ?_
                        refine wl_s rfl (want_n rfl rfl rfl rfl (by rw [hg1_54]; rfl)) ?_
                        refine wl_s rfl (want_n rfl rfl rfl rfl (by rw [hg1_54]; rfl)) ?_
                        refine wl_s rfl (want_n rfl rfl rfl rfl (by rw [hg1_54]; rfl)) ?_
                        refine wl_v (x_pickF (tmB rfl rfl) hg1_54 ev_c) ?_
                        refine wl_v (x_move (tmB rfl rfl)) ?_
                        refine wl_s rfl (want_n rfl rfl rfl rfl rfl) ?_
                        refine wl_s rfl (want_n rfl rfl rfl rfl rfl) ?_
                        refine wl_s rfl (want_n rfl rfl rfl rfl rfl) ?_
                        refine wl_s rfl (want_n rfl rfl rfl rfl rfl) ?_
                        refine wl_s rfl (want_n rfl rfl rfl rfl rfl) ?_
                        refine wl_s rfl (want_n rfl rfl rfl rfl rfl) ?_
                        refine wl_s rfl (want_n rfl rfl rfl rfl rfl) ?_
                        refine wl_v (x_pickF (tmB rfl rfl) rfl ev_c) ?_
                        refine wl_v (x_assign (tmB rfl rfl)) ?_
                        refine wl_nil ?_
                        refine then_n (hK2 _ _ ?_); clear hK2 K2
                        refine wp_ret ?_
                        refine ret1 rfl (.tmp rfl (show _ = Value.bool _ from rfl)) ?_
                        exact ⟨by simp [*], hS.kp⟩
                    have hg1_47' := hg1_47; (try simp only [nrm] at hg1_47')
                    all_goals
                     refine wl_s rfl (want_n rfl rfl rfl rfl (by rw [hg1_47]; rfl)) ?_
                     refine wl_s rfl (want_n rfl rfl rfl rfl (by rw [hg1_47]; rfl)) ?_
                     refine wl_s rfl (want_n rfl rfl rfl rfl (by rw [hg1_47]; rfl)) ?_
                     refine wl_s rfl (want_n rfl rfl rfl rfl (by rw [hg1_47]; rfl)) ?_
                     refine wl_s rfl (want_n rfl rfl rfl rfl (by rw [hg1_47]; rfl)) ?_
                     refine wl_v (x_pickF (tmB rfl rfl) hg1_47 ev_c) ?_
                     refine wl_v (x_move (tmB rfl rfl)) ?_
                     refine wl_s rfl (want_n rfl rfl rfl rfl rfl) ?_
                     refine wl_s rfl (want_n rfl rfl rfl rfl rfl) ?_
                     refine wl_s rfl (want_n rfl rfl rfl rfl rfl) ?_
                     refine wl_s rfl (want_n rfl rfl rfl rfl rfl) ?_
                     refine wl_s rfl (want_n rfl rfl rfl rfl rfl) ?_
                     refine wl_s rfl (want_n rfl rfl rfl rfl rfl) ?_
                     refine wl_s rfl (want_n rfl rfl rfl rfl rfl) ?_
                     refine wl_v (x_pickF (tmB rfl rfl) rfl ev_c) ?_
                     refine wl_v (x_move (tmB rfl rfl)) ?_
                     refine wl_s rfl (want_n rfl rfl rfl rfl rfl) ?_
                     refine wl_s rfl (want_n rfl rfl rfl rfl rfl) ?_
                     refine wl_s rfl (want_n rfl rfl rfl rfl rfl) ?_
                     refine wl_s rfl (want_n rfl rfl rfl rfl rfl) ?_
                     refine wl_s rfl (want_n rfl rfl rfl rfl rfl) ?_
                     refine wl_s rfl (want_n rfl rfl rfl rfl rfl) ?_
                     refine wl_s rfl (want_n rfl rfl rfl rfl rfl) ?_
                     refine wl_v (x_pickF (tmB rfl rfl) rfl ev_c) ?_
                     refine wl_v (x_assign (tmB rfl rfl)) ?_
                     refine wl_nil ?_
                     refine then_n (hK2 _ _ ?_); clear hK2 K2
                     refine wp_ret ?_
                     refine ret1 rfl (.tmp rfl (show _ = Value.bool _ from rfl)) ?_
                     exact ⟨by simp [*], hS.kp⟩
                 have hg1_40' := hg1_40; (try simp only [nrm] at hg1_40')
                 all_goals
                  refine wl_s rfl (want_n rfl rfl rfl rfl (by rw [hg1_40]; rfl)) ?_
                  refine wl_s rfl (want_n rfl rfl rfl rfl (by rw [hg1_40]; rfl)) ?_
                  refine wl_s rfl (want_n rfl rfl rfl rfl (by rw [hg1_40]; rfl)) ?_
                  refine wl_s rfl (want_n rfl rfl rfl rfl (by rw [hg1_40]; rfl)) ?_
                  refine wl_s rfl (want_n rfl rfl rfl rfl (by rw [hg1_40]; rfl)) ?_
                  refine wl_v (x_pickF (tmB rfl rfl) hg1_40 ev_c) ?_
                  refine wl_v (x_move (tmB rfl rfl)) ?_
                  refine wl_s rfl (want_n rfl rfl rfl rfl rfl) ?_
                  refine wl_s rfl (want_n rfl rfl rfl rfl rfl) ?_
                  refine wl_s rfl (want_n rfl rfl rfl rfl rfl) ?_
                  refine wl_s rfl (want_n rfl rfl rfl rfl rfl) ?_
                  refine wl_s rfl (want_n rfl rfl rfl rfl rfl) ?_
                  refine wl_v (x_pickF (tmB rfl rfl) rfl ev_c) ?_
                  refine wl_v (x_move (tmB rfl rfl)) ?_
                  refine wl_s rfl (want_n rfl rfl rfl rfl rfl) ?_
                  refine wl_s rfl (want_n rfl rfl rfl rfl rfl) ?_
                  refine wl_s rfl (want_n rfl rfl rfl rfl rfl) ?_
                  refine wl_s rfl (want_n rfl rfl rfl rfl rfl) ?_
                  refine wl_s rfl (want_n rfl rfl rfl rfl rfl) ?_
                  refine wl_s rfl (want_n rfl rfl rfl rfl rfl) ?_
                  refine wl_s rfl (want_n rfl rfl rfl rfl rfl) ?_
                  refine wl_v (x_pickF (tmB rfl rfl) rfl ev_c) ?_
                  refine wl_v (x_move (tmB rfl rfl)) ?_
                  refine wl_s rfl (want_n rfl rfl rfl rfl rfl) ?_
                  refine wl_s rfl (want_n rfl rfl rfl rfl rfl) ?_
                  refine wl_s rfl (want_n rfl rfl rfl rfl rfl) ?_
                  refine wl_s rfl (want_n rfl rfl rfl rfl rfl) ?_
                  refine wl_s rfl (want_n rfl rfl rfl rfl rfl) ?_
                  refine wl_s rfl (want_n rfl rfl rfl rfl rfl) ?_
                  refine wl_s rfl (want_n rfl rfl rfl rfl rfl) ?_
                  refine wl_v (x_pickF (tmB rfl rfl) rfl ev_c) ?_
                  refine wl_v (x_assign (tmB rfl rfl)) ?_
                  refine wl_nil ?_
                  refine then_n (hK2 _ _ ?_); clear hK2 K2
                  refine wp_ret ?_
                  refine ret1 rfl (.tmp rfl (show _ = Value.bool _ from rfl)) ?_
                  exact ⟨by simp [*], hS.kp⟩
              have hg1_33' := hg1_33; (try simp only [nrm] at hg1_33')
              all_goals
               refine wl_s rfl (want_n rfl rfl rfl rfl (by rw [hg1_33]; rfl)) ?_
               refine wl_s rfl (want_n rfl rfl rfl rfl (by rw [hg1_33]; rfl)) ?_
               refine wl_s rfl (want_n rfl rfl rfl rfl (by rw [hg1_33]; rfl)) ?_
               refine wl_s rfl (want_n rfl rfl rfl rfl (by rw [hg1_33]; rfl)) ?_
               refine wl_s rfl (want_n rfl rfl rfl rfl (by rw [hg1_33]; rfl)) ?_
               refine wl_v (x_pickF (tmB rfl rfl) hg1_33 ev_c) ?_
               refine wl_v (x_move (tmB rfl rfl)) ?_
               refine wl_s rfl (want_n rfl rfl rfl rfl rfl) ?_
               refine wl_s rfl (want_n rfl rfl rfl rfl rfl) ?_
               refine wl_s rfl (want_n rfl rfl rfl rfl rfl) ?_
               refine wl_s rfl (want_n rfl rfl rfl rfl rfl) ?_
               refine wl_s rfl (want_n rfl rfl rfl rfl rfl) ?_
               refine wl_v (x_pickF (tmB rfl rfl) rfl ev_c) ?_
               refine wl_v (x_move (tmB rfl rfl)) ?_
               refine wl_s rfl (want_n rfl rfl rfl rfl rfl) ?_
               refine wl_s rfl (want_n rfl rfl rfl rfl rfl) ?_
               refine wl_s rfl (want_n rfl rfl rfl rfl rfl) ?_
               refine wl_s rfl (want_n rfl rfl rfl rfl rfl) ?_
               refine wl_s rfl (want_n rfl rfl rfl rfl rfl) ?_
               refine wl_v (x_pickF (tmB rfl rfl) rfl ev_c) ?_
               refine wl_v (x_move (tmB rfl rfl)) ?_
               refine wl_s rfl (want_n rfl rfl rfl rfl rfl) ?_
               refine wl_s rfl (want_n rfl rfl rfl rfl rfl) ?_
               refine wl_s rfl (want_n rfl rfl rfl rfl rfl) ?_
               refine wl_s rfl (want_n rfl rfl rfl rfl rfl) ?_
               refine wl_s rfl (want_n rfl rfl rfl rfl rfl) ?_
               refine wl_s rfl (want_n rfl rfl rfl rfl rfl) ?_
               refine wl_s rfl (want_n rfl rfl rfl rfl rfl) ?_
               refine wl_v (x_pickF (tmB rfl rfl) rfl ev_c) ?_
               refine wl_v (x_move (tmB rfl rfl)) ?_
               refine wl_s rfl (want_n rfl rfl rfl rfl rfl) ?_
               refine wl_s rfl (want_n rfl rfl rfl rfl rfl) ?_
               refine wl_s rfl (want_n rfl rfl rfl rfl rfl) ?_
               refine wl_s rfl (want_n rfl rfl rfl rfl rfl) ?_
               refine wl_s rfl (want_n rfl rfl rfl rfl rfl) ?_
               refine wl_s rfl (want_n rfl rfl rfl rfl rfl) ?_
               refine wl_s rfl (want_n rfl rfl rfl rfl rfl) ?_
               refine wl_v (x_pickF (tmB rfl rfl) rfl ev_c) ?_
               refine wl_v (x_assign (tmB rfl rfl)) ?_
               refine wl_nil ?_
               refine then_n (hK2 _ _ ?_); clear hK2 K2
               refine wp_ret ?_
               refine ret1 rfl (.tmp rfl (show _ = Value.bool _ from rfl)) ?_
               exact ⟨by simp [*], hS.kp⟩
           have hg1_26' := hg1_26; (try simp only [nrm] at hg1_26')
           all_goals
            refine wl_s rfl (want_n rfl rfl rfl rfl (by rw [hg1_26]; rfl)) ?_
            refine wl_s rfl (want_n rfl rfl rfl rfl (by rw [hg1_26]; rfl)) ?_
            refine wl_s rfl (want_n rfl rfl rfl rfl (by rw [hg1_26]; rfl)) ?_
            refine wl_s rfl (want_n rfl rfl rfl rfl (by rw [hg1_26]; rfl)) ?_
            refine wl_s rfl (want_n rfl rfl rfl rfl (by rw [hg1_26]; rfl)) ?_
            refine wl_v (x_pickF (tmB rfl rfl) hg1_26 ev_c) ?_
            refine wl_v (x_move (tmB rfl rfl)) ?_
            refine wl_s rfl (want_n rfl rfl rfl rfl rfl) ?_
            refine wl_s rfl (want_n rfl rfl rfl rfl rfl) ?_
            refine wl_s rfl (want_n rfl rfl rfl rfl rfl) ?_
            refine wl_s rfl (want_n rfl rfl rfl rfl rfl) ?_
            refine wl_s rfl (want_n rfl rfl rfl rfl rfl) ?_
            refine wl_v (x_pickF (tmB rfl rfl) rfl ev_c) ?_
            refine wl_v (x_move (tmB rfl rfl)) ?_
            refine wl_s rfl (want_n rfl rfl rfl rfl rfl) ?_
            refine wl_s rfl (want_n rfl rfl rfl rfl rfl) ?_
            refine wl_s rfl (want_n rfl rfl rfl rfl rfl) ?_
            refine wl_s rfl (want_n rfl rfl rfl rfl rfl) ?_
            refine wl_s rfl (want_n rfl rfl rfl rfl rfl) ?_
            refine wl_v (x_pickF (tmB rfl rfl) rfl ev_c) ?_
            refine wl_v (x_move (tmB rfl rfl)) ?_
            refine wl_s rfl (want_n rfl rfl rfl rfl rfl) ?_
            refine wl_s rfl (want_n rfl rfl rfl rfl rfl) ?_
            refine wl_s rfl (want_n rfl rfl rfl rfl rfl) ?_
            refine wl_s rfl (want_n rfl rfl rfl rfl rfl) ?_
            refine wl_s rfl (want_n rfl rfl rfl rfl rfl) ?_
            refine wl_v (x_pickF (tmB rfl rfl) rfl ev_c) ?_
            refine wl_v (x_move (tmB rfl rfl)) ?_
            refine wl_s rfl (want_n rfl rfl rfl rfl rfl) ?_
            refine wl_s rfl (want_n rfl rfl rfl rfl rfl) ?_
            refine wl_s rfl (want_n rfl rfl rfl rfl rfl) ?_
            refine wl_s rfl (want_n rfl rfl rfl rfl rfl) ?_
            refine wl_s rfl (want_n rfl rfl rfl rfl rfl) ?_
            refine wl_s rfl (want_n rfl rfl rfl rfl rfl) ?_
            refine wl_s rfl (want_n rfl rfl rfl rfl rfl) ?_
            refine wl_v (x_pickF (tmB rfl rfl) rfl ev_c) ?_
            refine wl_v (x_move (tmB rfl rfl)) ?_
            refine wl_s rfl (want_n rfl rfl rfl rfl rfl) ?_
            refine wl_s rfl (want_n rfl rfl rfl rfl rfl) ?_
            refine wl_s rfl (want_n rfl rfl rfl rfl rfl) ?_
            refine wl_s rfl (want_n rfl rfl rfl rfl rfl) ?_
            refine wl_s rfl (want_n rfl rfl rfl rfl rfl) ?_
            refine wl_s rfl (want_n rfl rfl rfl rfl rfl) ?_
            refine wl_s rfl (want_n rfl rfl rfl rfl rfl) ?_
            refine wl_v (x_pickF (tmB rfl rfl) rfl ev_c) ?_
            refine wl_v (x_assign (tmB rfl rfl)) ?_
            refine wl_nil ?_
            refine then_n (hK2 _ _ ?_); clear hK2 K2
            refine wp_ret ?_
            refine ret1 rfl (.tmp rfl (show _ = Value.bool _ from rfl)) ?_
            exact ⟨by simp [*], hS.kp⟩
        have hg1_19' := hg1_19; (try simp only [nrm] at hg1_19')
        all_goals
         refine wl_s rfl (want_n rfl rfl rfl rfl (by rw [hg1_19]; rfl)) ?_
         refine wl_s rfl (want_n rfl rfl rfl rfl (by rw [hg1_19]; rfl)) ?_
         refine wl_s rfl (want_n rfl rfl rfl rfl (by rw [hg1_19]; rfl)) ?_
         refine wl_s rfl (want_n rfl rfl rfl rfl (by rw [hg1_19]; rfl)) ?_
         refine wl_s rfl (want_n rfl rfl rfl rfl (by rw [hg1_19]; rfl)) ?_
         refine wl_v (x_pickF (tmB rfl rfl) hg1_19 ev_c) ?_
         refine wl_v (x_move (tmB rfl rfl)) ?_
         refine wl_s rfl (want_n rfl rfl rfl rfl rfl) ?_
         refine wl_s rfl (want_n rfl rfl rfl rfl rfl) ?_
         refine wl_s rfl (want_n rfl rfl rfl rfl rfl) ?_
         refine wl_s rfl (want_n rfl rfl rfl rfl rfl) ?_
         refine wl_s rfl (want_n rfl rfl rfl rfl rfl) ?_
         refine wl_v (x_pickF (tmB rfl rfl) rfl ev_c) ?_
         refine wl_v (x_move (tmB rfl rfl)) ?_
         refine wl_s rfl (want_n rfl rfl rfl rfl rfl) ?_
         refine wl_s rfl (want_n rfl rfl rfl rfl rfl) ?_
         refine wl_s rfl (want_n rfl rfl rfl rfl rfl) ?_
         refine wl_s rfl (want_n rfl rfl rfl rfl rfl) ?_
         refine wl_s rfl (want_n rfl rfl rfl rfl rfl) ?_
         refine wl_v (x_pickF (tmB rfl rfl) rfl ev_c) ?_
         refine wl_v (x_move (tmB rfl rfl)) ?_
         refine wl_s rfl (want_n rfl rfl rfl rfl rfl) ?_
         refine wl_s rfl (want_n rfl rfl rfl rfl rfl) ?_
         refine wl_s rfl (want_n rfl rfl rfl rfl rfl) ?_
         refine wl_s rfl (want_n rfl rfl rfl rfl rfl) ?_
         refine wl_s rfl (want_n rfl rfl rfl rfl rfl) ?_
         refine wl_v (x_pickF (tmB rfl rfl) rfl ev_c) ?_
         refine wl_v (x_move (tmB rfl rfl)) ?_
         refine wl_s rfl (want_n rfl rfl rfl rfl rfl) ?_
         refine wl_s rfl (want_n rfl rfl rfl rfl rfl) ?_
         refine wl_s rfl (want_n rfl rfl rfl rfl rfl) ?_
         refine wl_s rfl (want_n rfl rfl rfl rfl rfl) ?_
         refine wl_s rfl (want_n rfl rfl rfl rfl rfl) ?_
         refine wl_v (x_pickF (tmB rfl rfl) rfl ev_c) ?_
         refine wl_v (x_move (tmB rfl rfl)) ?_
         refine wl_s rfl (want_n rfl rfl rfl rfl rfl) ?_
         refine wl_s rfl (want_n rfl rfl rfl rfl rfl) ?_
         refine wl_s rfl (want_n rfl rfl rfl rfl rfl) ?_
         refine wl_s rfl (want_n rfl rfl rfl rfl rfl) ?_
         refine wl_s rfl (want_n rfl rfl rfl rfl rfl) ?_
         refine wl_s rfl (want_n rfl rfl rfl rfl rfl) ?_
         refine wl_s rfl (want_n rfl rfl rfl rfl rfl) ?_
         refine wl_v (x_pickF (tmB rfl rfl) rfl ev_c) ?_
         refine wl_v (x_move (tmB rfl rfl)) ?_
         refine wl_s rfl (want_n rfl rfl rfl rfl rfl) ?_
         refine wl_s rfl (want_n rfl rfl rfl rfl rfl) ?_
         refine wl_s rfl (want_n rfl rfl rfl rfl rfl) ?_
         refine wl_s rfl (want_n rfl rfl rfl rfl rfl) ?_
         refine wl_s rfl (want_n rfl rfl rfl rfl rfl) ?_
         refine wl_s rfl (want_n rfl rfl rfl rfl rfl) ?_
         refine wl_s rfl (want_n rfl rfl rfl rfl rfl) ?_
         refine wl_v (x_pickF (tmB rfl rfl) rfl ev_c) ?_
         refine wl_v (x_assign (tmB rfl rfl)) ?_
         refine wl_nil ?_
         refine then_n (hK2 _ _ ?_); clear hK2 K2
         refine wp_ret ?_
         refine ret1 rfl (.tmp rfl (show _ = Value.bool _ from rfl)) ?_
         exact ⟨by simp [*], hS.kp⟩
     have hg1_12' := hg1_12; (try simp only [nrm] at hg1_12')
     all_goals
      refine wl_s rfl (want_n rfl rfl rfl rfl (by rw [hg1_12]; rfl)) ?_
      refine wl_s rfl (want_n rfl rfl rfl rfl (by rw [hg1_12]; rfl)) ?_
      refine wl_s rfl (want_n rfl rfl rfl rfl (by rw [hg1_12]; rfl)) ?_
      refine wl_s rfl (want_n rfl rfl rfl rfl (by rw [hg1_12]; rfl)) ?_
      refine wl_s rfl (want_n rfl rfl rfl rfl (by rw [hg1_12]; rfl)) ?_
      refine wl_v (x_pickF (tmB rfl rfl) hg1_12 ev_c) ?_
      refine wl_v (x_move (tmB rfl rfl)) ?_
      refine wl_s rfl (want_n rfl rfl rfl rfl rfl) ?_
      refine wl_s rfl (want_n rfl rfl rfl rfl rfl) ?_
      refine wl_s rfl (want_n rfl rfl rfl rfl rfl) ?_
      refine wl_s rfl (want_n rfl rfl rfl rfl rfl) ?_
      refine wl_s rfl (want_n rfl rfl rfl rfl rfl) ?_
      refine wl_v (x_pickF (tmB rfl rfl) rfl ev_c) ?_
      refine wl_v (x_move (tmB rfl rfl)) ?_
      refine wl_s rfl (want_n rfl rfl rfl rfl rfl) ?_
      refine wl_s rfl (want_n rfl rfl rfl rfl rfl) ?_
      refine wl_s rfl (want_n rfl rfl rfl rfl rfl) ?_
      refine wl_s rfl (want_n rfl rfl rfl rfl rfl) ?_
      refine wl_s rfl (want_n rfl rfl rfl rfl rfl) ?_
      refine wl_v (x_pickF (tmB rfl rfl) rfl ev_c) ?_
      refine wl_v (x_move (tmB rfl rfl)) ?_
      refine wl_s rfl (want_n rfl rfl rfl rfl rfl) ?_
      refine wl_s rfl (want_n rfl rfl rfl rfl rfl) ?_
      refine wl_s rfl (want_n rfl rfl rfl rfl rfl) ?_
      refine wl_s rfl (want_n rfl rfl rfl rfl rfl) ?_
      refine wl_s rfl (want_n rfl rfl rfl rfl rfl) ?_
      refine wl_v (x_pickF (tmB rfl rfl) rfl ev_c) ?_
      refine wl_v (x_move (tmB rfl rfl)) ?_
      refine wl_s rfl (want_n rfl rfl rfl rfl rfl) ?_
      refine wl_s rfl (want_n rfl rfl rfl rfl rfl) ?_
      refine wl_s rfl (want_n rfl rfl rfl rfl rfl) ?_
      refine wl_s rfl (want_n rfl rfl rfl rfl rfl) ?_
      refine wl_s rfl (want_n rfl rfl rfl rfl rfl) ?_
      refine wl_v (x_pickF (tmB rfl rfl) rfl ev_c) ?_
      refine wl_v (x_move (tmB rfl rfl)) ?_
      refine wl_s rfl (want_n rfl rfl rfl rfl rfl) ?_
      refine wl_s rfl (want_n rfl rfl rfl rfl rfl) ?_
      refine wl_s rfl (want_n rfl rfl rfl rfl rfl) ?_
      refine wl_s rfl (want_n rfl rfl rfl rfl rfl) ?_
      refine wl_s rfl (want_n rfl rfl rfl rfl rfl) ?_
      refine wl_v (x_pickF (tmB rfl rfl) rfl ev_c) ?_
      refine wl_v (x_move (tmB rfl rfl)) ?_
      refine wl_s rfl (want_n rfl rfl rfl rfl rfl) ?_
      refine wl_s rfl (want_n rfl rfl rfl rfl rfl) ?_
      refine wl_s rfl (want_n rfl rfl rfl rfl rfl) ?_
      refine wl_s rfl (want_n rfl rfl rfl rfl rfl) ?_
      refine wl_s rfl (want_n rfl rfl rfl rfl rfl) ?_
      refine wl_s rfl (want_n rfl rfl rfl rfl rfl) ?_
      refine wl_s rfl (want_n rfl rfl rfl rfl rfl) ?_
      refine wl_v (x_pickF (tmB rfl rfl) rfl ev_c) ?_
      refine wl_v (x_move (tmB rfl rfl)) ?_
      refine wl_s rfl (want_n rfl rfl rfl rfl rfl) ?_
      refine wl_s rfl (want_n rfl rfl rfl rfl rfl) ?_
      refine wl_s rfl (want_n rfl rfl rfl rfl rfl) ?_
      refine wl_s rfl (want_n rfl rfl rfl rfl rfl) ?_
      refine wl_s rfl (want_n rfl rfl rfl rfl rfl) ?_
      refine wl_s rfl (want_n rfl rfl rfl rfl rfl) ?_
      refine wl_s rfl (want_n rfl rfl rfl rfl rfl) ?_
      refine wl_v (x_pickF (tmB rfl rfl) rfl ev_c) ?_
      refine wl_v (x_assign (tmB rfl rfl)) ?_
      refine wl_nil ?_
      refine then_n (hK2 _ _ ?_); clear hK2 K2
      refine wp_ret ?_
      refine ret1 rfl (.tmp rfl (show _ = Value.bool _ from rfl)) ?_
      exact ⟨by simp [*], hS.kp⟩
  have hg1_5' := hg1_5; (try simp only [nrm] at hg1_5')
  all_goals
   refine wl_s rfl (want_n rfl rfl rfl rfl (by rw [hg1_5]; rfl)) ?_
   refine wl_s rfl (want_n rfl rfl rfl rfl (by rw [hg1_5]; rfl)) ?_
   refine wl_s rfl (want_n rfl rfl rfl rfl (by rw [hg1_5]; rfl)) ?_
   refine wl_s rfl (want_n rfl rfl rfl rfl (by rw [hg1_5]; rfl)) ?_
   refine wl_s rfl (want_n rfl rfl rfl rfl (by rw [hg1_5]; rfl)) ?_
   refine wl_v (x_pickF (tmB rfl rfl) hg1_5 ev_c) ?_
   refine wl_v (x_move (tmB rfl rfl)) ?_
   refine wl_s rfl (want_n rfl rfl rfl rfl rfl) ?_
   refine wl_s rfl (want_n rfl rfl rfl rfl rfl) ?_
   refine wl_s rfl (want_n rfl rfl rfl rfl rfl) ?_
   refine wl_s rfl (want_n rfl rfl rfl rfl rfl) ?_
   refine wl_s rfl (want_n rfl rfl rfl rfl rfl) ?_
   refine wl_v (x_pickF (tmB rfl rfl) rfl ev_c) ?_
   refine wl_v (x_move (tmB rfl rfl)) ?_
   refine wl_s rfl (want_n rfl rfl rfl rfl rfl) ?_
   refine wl_s rfl (want_n rfl rfl rfl rfl rfl) ?_
   refine wl_s rfl (want_n rfl rfl rfl rfl rfl) ?_
   refine wl_s rfl (want_n rfl rfl rfl rfl rfl) ?_
   refine wl_s rfl (want_n rfl rfl rfl rfl rfl) ?_
   refine wl_v (x_pickF (tmB rfl rfl) rfl ev_c) ?_
   refine wl_v (x_move (tmB rfl rfl)) ?_
   refine wl_s rfl (want_n rfl rfl rfl rfl rfl) ?_
   refine wl_s rfl (want_n rfl rfl rfl rfl rfl) ?_
   refine wl_s rfl (want_n rfl rfl rfl rfl rfl) ?_
   refine wl_s rfl (want_n rfl rfl rfl rfl rfl) ?_
   refine wl_s rfl (want_n rfl rfl rfl rfl rfl) ?_
   refine wl_v (x_pickF (tmB rfl rfl) rfl ev_c) ?_
   refine wl_v (x_move (tmB rfl rfl)) ?_
   refine wl_s rfl (want_n rfl rfl rfl rfl rfl) ?_
   refine wl_s rfl (want_n rfl rfl rfl rfl rfl) ?_
   refine wl_s rfl (want_n rfl rfl rfl rfl rfl) ?_
   refine wl_s rfl (want_n rfl rfl rfl rfl rfl) ?_
   refine wl_s rfl (want_n rfl rfl rfl rfl rfl) ?_
   refine wl_v (x_pickF (tmB rfl rfl) rfl ev_c) ?_
   refine wl_v (x_move (tmB rfl rfl)) ?_
   refine wl_s rfl (want_n rfl rfl rfl rfl rfl) ?_
   refine wl_s rfl (want_n rfl rfl rfl rfl rfl) ?_
   refine wl_s rfl (want_n rfl rfl rfl rfl rfl) ?_
   refine wl_s rfl (want_n rfl rfl rfl rfl rfl) ?_
   refine wl_s rfl (want_n rfl rfl rfl rfl rfl) ?_
   refine wl_v (x_pickF (tmB rfl rfl) rfl ev_c) ?_
   refine wl_v (x_move (tmB rfl rfl)) ?_
   refine wl_s rfl (want_n rfl rfl rfl rfl rfl) ?_
   refine wl_s rfl (want_n rfl rfl rfl rfl rfl) ?_
   refine wl_s rfl (want_n rfl rfl rfl rfl rfl) ?_
   refine wl_s rfl (want_n rfl rfl rfl rfl rfl) ?_
   refine wl_s rfl (want_n rfl rfl rfl rfl rfl) ?_
   refine wl_v (x_pickF (tmB rfl rfl) rfl ev_c) ?_
   refine wl_v (x_move (tmB rfl rfl)) ?_
   refine wl_s rfl (want_n rfl rfl rfl rfl rfl) ?_
   refine wl_s rfl (want_n rfl rfl rfl rfl rfl) ?_
   refine wl_s rfl (want_n rfl rfl rfl rfl rfl) ?_
   refine wl_s rfl (want_n rfl rfl rfl rfl rfl) ?_
   refine wl_s rfl (want_n rfl rfl rfl rfl rfl) ?_
   refine wl_s rfl (want_n rfl rfl rfl rfl rfl) ?_
   refine wl_s rfl (want_n rfl rfl rfl rfl rfl) ?_
   refine wl_v (x_pickF (tmB rfl rfl) rfl ev_c) ?_
   refine wl_v (x_move (tmB rfl rfl)) ?_
   refine wl_s rfl (want_n rfl rfl rfl rfl rfl) ?_
   refine wl_s rfl (want_n rfl rfl rfl rfl rfl) ?_
   refine wl_s rfl (want_n rfl rfl rfl rfl rfl) ?_
   refine wl_s rfl (want_n rfl rfl rfl rfl rfl) ?_
   refine wl_s rfl (want_n rfl rfl rfl rfl rfl) ?_
   refine wl_s rfl (want_n rfl rfl rfl rfl rfl) ?_
   refine wl_s rfl (want_n rfl rfl rfl rfl rfl) ?_
   refine wl_v (x_pickF (tmB rfl rfl) rfl ev_c) ?_
   refine wl_v (x_assign (tmB rfl rfl)) ?_
   refine wl_nil ?_
   refine then_n (hK2 _ _ ?_); clear hK2 K2
   refine wp_ret ?_
   refine ret1 rfl (.tmp rfl (show _ = Value.bool _ from rfl)) ?_
   exact ⟨by simp [*], hS.kp⟩

end Go.Proofs.YtmekadkmmddocaaDoor
