
/- Proved: IcmpBig returns true for every packet, limit and family, and changes no memory that was there. Conditions: none. -/
import Derived.Test.YtchpcijmgnfkfaaIcmp
import Derived.Test.YtchpcijmgnfkfaaArgs
namespace Go.Proofs.Ytchpcijmgnfkfaa
open Go.RowKit

set_option maxRecDepth 100000 in
set_option maxHeartbeats 4000000 in
theorem law08_awake_c (w0 : World) :
    Calls Try.prog 24 #[] w0 fun e w' => e = .returned (.bool true) ∧ Kp [] w0 w' := by
  have hS := St.sv w0
  refine ent (n := 20) Try.func24 rfl rfl ?_
  refine wp_seq_k ?_; intro K1 hK1
  refine wlit ?_
  refine wl_v (x_assign ev_c) ?_
  refine wl_nil ?_
  refine then_n (hK1 _ _ ?_); clear hK1 K1
  refine wp_seq_k ?_; intro K2 hK2
  refine wlit ?_
  refine wl_e rfl ?_; intro K hK
  refine ow_build hS Try.underlying36 tz_5 (bc_take (ev_cN 7) <| bc_take (ev_cN 8) <| bc_take (ev_cN 9) <| bc_nil) rfl rfl (by kernel_rfl) ?_
  clear hS; intro g1_0 w hg1_0 hS
  refine hK _ _ ?_; clear hK K
  refine wl_e rfl ?_; intro K hK
  refine ow_call Try.func27 rfl rfl (evs_cons (tmS rfl rfl) <| evs_cons (ev_cN 1400) <| evs_cons ev_c <| evs_nil) (toobig_c 3 _ _ [7, 8, 9] 1400 false _ (viewB hS.ok 0 rfl) rfl (by omega) (by omega) (by omega)) ?_
  rintro e w ⟨A', k, c', rfl, rfl, hn, hk⟩
  refine ⟨_, rfl, ?_⟩
  replace hS := hS.add hk hn -- +1
  clear hn hk
  refine hK _ _ ?_; clear hK K
  refine wl_e rfl ?_; intro K hK
  refine ow_call Try.func106 rfl rfl (evs_cons (tmA rfl rfl) <| evs_nil) (icmp_bytes_c 3 4 0 1400 A' 3 c' [7, 8, 9] _ (viewR hS.ok 0 rfl) rfl (by omega) (by omega) (by omega) (by omega) (by omega)) ?_
  rintro e w ⟨A2, m, c2, rfl, rfl, hn, hk⟩
  refine ⟨_, rfl, ?_⟩
  replace hS := hS.add hk hn -- +1
  obtain ⟨g2, rfl⟩ := row_some (hS.rowOk 0 rfl) (by omega)
  clear hn hk
  refine hK _ _ ?_; clear hK K
  refine wl_v (x_assign (tmS rfl rfl)) ?_
  refine wl_nil ?_
  refine then_n (hK2 _ _ ?_); clear hK2 K2
  refine wp_seq_k ?_; intro K3 hK3
  refine wlit ?_
  refine wl_v (x_move (tmS rfl rfl)) ?_
  refine wl_v (x_len Try.underlying36 (tmS rfl rfl)) ?_
  refine wl_v (x_eql (tmI rfl rfl) (ev_cN 11)) ?_
  refine wl_v (x_move (tmB rfl rfl)) ?_
  refine gs_wls (tm (t := 8) rfl) (fun hg2_3 => ?_) (fun hg2_3 => ?_)
  · exfalso
    exact absurd hg2_3 (by decide)
  have hg2_3' := hg2_3; (try simp only [nrm] at hg2_3')
  refine wl_gv (want_y rfl rfl rfl rfl (by rw [hg2_3]; rfl)) (x_move (tmS rfl rfl)) ?_
  refine wl_gv (want_y rfl rfl rfl rfl (by rw [hg2_3]; rfl)) (x_ixs1 Try.underlying36 ts_5 (tmS rfl rfl) (ev_cN 0) (by omega)) ?_
  first
   | refine wl_gv (want_y rfl rfl rfl rfl (by rw [hg2_3]; rfl)) (x_load Try.underlying5 rfl (tmP rfl rfl) (cellB hS.ok 0 rfl rfl)) ?_
   | refine wl_gv (want_y rfl rfl rfl rfl (by rw [hg2_3]; rfl)) (x_load Try.underlying5 rfl (tmP rfl rfl) (cellB hS.ok 1 rfl rfl)) ?_
   | refine wl_gv (want_y rfl rfl rfl rfl (by rw [hg2_3]; rfl)) (x_load Try.underlying5 rfl (tmP rfl rfl) (cellB hS.ok 2 rfl rfl)) ?_
   | refine wl_gv (want_y rfl rfl rfl rfl (by rw [hg2_3]; rfl)) (x_load Try.underlying5 rfl (tmP rfl rfl) (cellV hS.ok 0 rfl rfl)) ?_
   | refine wl_gv (want_y rfl rfl rfl rfl (by rw [hg2_3]; rfl)) (x_load Try.underlying5 rfl (tmP rfl rfl) (cellV hS.ok 0 rfl (getm (by omega)))) ?_
   | refine wl_gv (want_y rfl rfl rfl rfl (by rw [hg2_3]; rfl)) (x_load Try.underlying5 rfl (tmP rfl rfl) (cellVs hS.ok 0 rfl (fun _ => rfl) rfl (by omega) rfl)) ?_
   | refine wl_gv (want_y rfl rfl rfl rfl (by rw [hg2_3]; rfl)) (x_load Try.underlying5 rfl (tmP rfl rfl) (cellR hS.ok 0 rfl rfl)) ?_
   | refine wl_gv (want_y rfl rfl rfl rfl (by rw [hg2_3]; rfl)) (x_load Try.underlying5 rfl (tmP rfl rfl) (cellR hS.ok 0 rfl (getm (by omega)))) ?_
   | refine wl_gv (want_y rfl rfl rfl rfl (by rw [hg2_3]; rfl)) (x_load Try.underlying5 rfl (tmP rfl rfl) (cellRs hS.ok 0 rfl (fun _ => rfl) rfl (by omega) rfl)) ?_
   | refine wl_gv (want_y rfl rfl rfl rfl (by rw [hg2_3]; rfl)) (x_load Try.underlying5 rfl (tmP rfl rfl) (cellV hS.ok 1 rfl rfl)) ?_
   | refine wl_gv (want_y rfl rfl rfl rfl (by rw [hg2_3]; rfl)) (x_load Try.underlying5 rfl (tmP rfl rfl) (cellV hS.ok 1 rfl (getm (by omega)))) ?_
   | refine wl_gv (want_y rfl rfl rfl rfl (by rw [hg2_3]; rfl)) (x_load Try.underlying5 rfl (tmP rfl rfl) (cellVs hS.ok 1 rfl (fun _ => rfl) rfl (by omega) rfl)) ?_
   | refine wl_gv (want_y rfl rfl rfl rfl (by rw [hg2_3]; rfl)) (x_load Try.underlying5 rfl (tmP rfl rfl) (cellR hS.ok 1 rfl rfl)) ?_
   | refine wl_gv (want_y rfl rfl rfl rfl (by rw [hg2_3]; rfl)) (x_load Try.underlying5 rfl (tmP rfl rfl) (cellR hS.ok 1 rfl (getm (by omega)))) ?_
   | refine wl_gv (want_y rfl rfl rfl rfl (by rw [hg2_3]; rfl)) (x_load Try.underlying5 rfl (tmP rfl rfl) (cellRs hS.ok 1 rfl (fun _ => rfl) rfl (by omega) rfl)) ?_
   | refine wl_gv (want_y rfl rfl rfl rfl (by rw [hg2_3]; rfl)) (x_load Try.underlying5 rfl (tmP rfl rfl) (cellV hS.ok 2 rfl rfl)) ?_
   | refine wl_gv (want_y rfl rfl rfl rfl (by rw [hg2_3]; rfl)) (x_load Try.underlying5 rfl (tmP rfl rfl) (cellV hS.ok 2 rfl (getm (by omega)))) ?_
   | refine wl_gv (want_y rfl rfl rfl rfl (by rw [hg2_3]; rfl)) (x_load Try.underlying5 rfl (tmP rfl rfl) (cellVs hS.ok 2 rfl (fun _ => rfl) rfl (by omega) rfl)) ?_
   | refine wl_gv (want_y rfl rfl rfl rfl (by rw [hg2_3]; rfl)) (x_load Try.underlying5 rfl (tmP rfl rfl) (cellR hS.ok 2 rfl rfl)) ?_
   | refine wl_gv (want_y rfl rfl rfl rfl (by rw [hg2_3]; rfl)) (x_load Try.underlying5 rfl (tmP rfl rfl) (cellR hS.ok 2 rfl (getm (by omega)))) ?_
   | refine wl_gv (want_y rfl rfl rfl rfl (by rw [hg2_3]; rfl)) (x_load Try.underlying5 rfl (tmP rfl rfl) (cellRs hS.ok 2 rfl (fun _ => rfl) rfl (by omega) rfl)) ?_
  refine wl_gv (want_y rfl rfl rfl rfl (by rw [hg2_3]; rfl)) (x_eql (tmI rfl rfl) (ev_cN 3)) ?_
  refine wl_v (x_pickT (tmB rfl rfl) hg2_3 (tmB rfl rfl)) ?_
  refine wl_v (x_move (tmB rfl rfl)) ?_
  refine gs_wls (tm (t := 14) rfl) (fun hg2_9 => ?_) (fun hg2_9 => ?_)
  · exfalso
    exact absurd hg2_9 (by decide)
  have hg2_9' := hg2_9; (try simp only [nrm] at hg2_9')
  refine wl_gv (want_y rfl rfl rfl rfl (by rw [hg2_9]; rfl)) (x_move (tmS rfl rfl)) ?_
  refine wl_gv (want_y rfl rfl rfl rfl (by rw [hg2_9]; rfl)) (x_ixs1 Try.underlying36 ts_5 (tmS rfl rfl) (ev_cN 1) (by omega)) ?_
  first
   | refine wl_gv (want_y rfl rfl rfl rfl (by rw [hg2_9]; rfl)) (x_load Try.underlying5 rfl (tmP rfl rfl) (cellB hS.ok 0 rfl rfl)) ?_
   | refine wl_gv (want_y rfl rfl rfl rfl (by rw [hg2_9]; rfl)) (x_load Try.underlying5 rfl (tmP rfl rfl) (cellB hS.ok 1 rfl rfl)) ?_
   | refine wl_gv (want_y rfl rfl rfl rfl (by rw [hg2_9]; rfl)) (x_load Try.underlying5 rfl (tmP rfl rfl) (cellB hS.ok 2 rfl rfl)) ?_
   | refine wl_gv (want_y rfl rfl rfl rfl (by rw [hg2_9]; rfl)) (x_load Try.underlying5 rfl (tmP rfl rfl) (cellV hS.ok 0 rfl rfl)) ?_
   | refine wl_gv (want_y rfl rfl rfl rfl (by rw [hg2_9]; rfl)) (x_load Try.underlying5 rfl (tmP rfl rfl) (cellV hS.ok 0 rfl (getm (by omega)))) ?_
   | refine wl_gv (want_y rfl rfl rfl rfl (by rw [hg2_9]; rfl)) (x_load Try.underlying5 rfl (tmP rfl rfl) (cellVs hS.ok 0 rfl (fun _ => rfl) rfl (by omega) rfl)) ?_
   | refine wl_gv (want_y rfl rfl rfl rfl (by rw [hg2_9]; rfl)) (x_load Try.underlying5 rfl (tmP rfl rfl) (cellR hS.ok 0 rfl rfl)) ?_
   | refine wl_gv (want_y rfl rfl rfl rfl (by rw [hg2_9]; rfl)) (x_load Try.underlying5 rfl (tmP rfl rfl) (cellR hS.ok 0 rfl (getm (by omega)))) ?_
   | refine wl_gv (want_y rfl rfl rfl rfl (by rw [hg2_9]; rfl)) (x_load Try.underlying5 rfl (tmP rfl rfl) (cellRs hS.ok 0 rfl (fun _ => rfl) rfl (by omega) rfl)) ?_
   | refine wl_gv (want_y rfl rfl rfl rfl (by rw [hg2_9]; rfl)) (x_load Try.underlying5 rfl (tmP rfl rfl) (cellV hS.ok 1 rfl rfl)) ?_
   | refine wl_gv (want_y rfl rfl rfl rfl (by rw [hg2_9]; rfl)) (x_load Try.underlying5 rfl (tmP rfl rfl) (cellV hS.ok 1 rfl (getm (by omega)))) ?_
   | refine wl_gv (want_y rfl rfl rfl rfl (by rw [hg2_9]; rfl)) (x_load Try.underlying5 rfl (tmP rfl rfl) (cellVs hS.ok 1 rfl (fun _ => rfl) rfl (by omega) rfl)) ?_
   | refine wl_gv (want_y rfl rfl rfl rfl (by rw [hg2_9]; rfl)) (x_load Try.underlying5 rfl (tmP rfl rfl) (cellR hS.ok 1 rfl rfl)) ?_
   | refine wl_gv (want_y rfl rfl rfl rfl (by rw [hg2_9]; rfl)) (x_load Try.underlying5 rfl (tmP rfl rfl) (cellR hS.ok 1 rfl (getm (by omega)))) ?_
   | refine wl_gv (want_y rfl rfl rfl rfl (by rw [hg2_9]; rfl)) (x_load Try.underlying5 rfl (tmP rfl rfl) (cellRs hS.ok 1 rfl (fun _ => rfl) rfl (by omega) rfl)) ?_
   | refine wl_gv (want_y rfl rfl rfl rfl (by rw [hg2_9]; rfl)) (x_load Try.underlying5 rfl (tmP rfl rfl) (cellV hS.ok 2 rfl rfl)) ?_
   | refine wl_gv (want_y rfl rfl rfl rfl (by rw [hg2_9]; rfl)) (x_load Try.underlying5 rfl (tmP rfl rfl) (cellV hS.ok 2 rfl (getm (by omega)))) ?_
   | refine wl_gv (want_y rfl rfl rfl rfl (by rw [hg2_9]; rfl)) (x_load Try.underlying5 rfl (tmP rfl rfl) (cellVs hS.ok 2 rfl (fun _ => rfl) rfl (by omega) rfl)) ?_
   | refine wl_gv (want_y rfl rfl rfl rfl (by rw [hg2_9]; rfl)) (x_load Try.underlying5 rfl (tmP rfl rfl) (cellR hS.ok 2 rfl rfl)) ?_
   | refine wl_gv (want_y rfl rfl rfl rfl (by rw [hg2_9]; rfl)) (x_load Try.underlying5 rfl (tmP rfl rfl) (cellR hS.ok 2 rfl (getm (by omega)))) ?_
   | refine wl_gv (want_y rfl rfl rfl rfl (by rw [hg2_9]; rfl)) (x_load Try.underlying5 rfl (tmP rfl rfl) (cellRs hS.ok 2 rfl (fun _ => rfl) rfl (by omega) rfl)) ?_
  refine wl_gv (want_y rfl rfl rfl rfl (by rw [hg2_9]; rfl)) (x_eql (tmI rfl rfl) (ev_cN 4)) ?_
  refine wl_v (x_pickT (tmB rfl rfl) hg2_9 (tmB rfl rfl)) ?_
  refine wl_v (x_assign (tmB rfl rfl)) ?_
  refine wl_nil ?_
  refine then_n (hK3 _ _ ?_); clear hK3 K3
  refine wp_ret ?_
  refine ret1 rfl (.tmp rfl (show _ = Value.bool _ from rfl)) ?_
  exact ⟨rfl, hS.kp⟩

namespace IcmpBig
set_option maxRecDepth 100000 in
set_option maxHeartbeats 4000000 in
theorem walk (A : Option Addr) (n c : Nat) (l : List Nat) (most : Int) (six : Bool) (w0 : World)
    (r1 : l.length = n ∧ (A = none → c = 0) ∧ BView w0 w0.heap.size A l ∧ n ≤ c) (hm : 0 ≤ most ∧ most < 65536) :
    Calls Try.prog 4 #[.slice A n c, .int .u16 most, .bool six] w0 fun e w' => e = .returned (.bool true) ∧ Below w0.heap.size w0 w' := by
  obtain ⟨most, rfl⟩ := Int.eq_ofNat_of_zero_le hm.1
  obtain ⟨hl, _, ⟨hb, hv⟩, hc⟩ := r1
  have hS := (St.sv w0).vcons rfl hv
  refine ent (n := 24) Try.func4 rfl rfl ?_
  refine wp_seq_k ?_; intro K1 hK1
  refine wlit ?_
  refine wl_v (x_assign ev_c) ?_
  refine wl_nil ?_
  refine then_n (hK1 _ _ ?_); clear hK1 K1
  refine wp_seq_k ?_; intro K2 hK2
  refine wp_seq_k ?_; intro K3 hK3
  refine wlit ?_
  refine wl_v (x_move (tmS rfl rfl)) ?_
  refine wl_v (x_len Try.underlying36 (tmS rfl rfl)) ?_
  refine wl_v (x_gtr (tmI rfl rfl) (ev_cN 4000)) ?_
  refine wl_nil ?_
  refine then_n (hK3 _ _ ?_); clear hK3 K3
  refine cnd (tm rfl) (fun hc0 => ?_) (fun hc0 => ?_)
  · try (exfalso; first | with_reducible exact absurd hc0 Bool.false_ne_true | with_reducible exact absurd hc0.symm Bool.false_ne_true | (simp only [nrm] at hc0; omega))
    all_goals
     try simp only [nrm] at hc0
     refine wp_seq_k ?_; intro K4 hK4
     refine wlit ?_
     refine wl_e rfl ?_; intro K hK
     refine ow_call Try.func24 rfl rfl (evs_nil) (law08_awake_c _) ?_
     rintro e w ⟨rfl, hk⟩
     refine ⟨_, rfl, ?_⟩
     replace hS := hS.kept hk
     clear hk
     refine hK _ _ ?_; clear hK K
     refine wl_v (x_assign (tmB rfl rfl)) ?_
     refine wl_nil ?_
     refine then_n (hK4 _ _ ?_); clear hK4 K4
     refine wp_ret ?_
     refine then_r ?_
     refine ret1 rfl (.tmp rfl (show _ = Value.bool _ from rfl)) ?_
     exact ⟨rfl, hS.kp.below⟩
  try simp only [nrm] at hc0
  refine wp_skip ?_
  refine then_n (hK2 _ _ ?_); clear hK2 K2
  refine wp_seq_k ?_; intro K5 hK5
  refine wlit ?_
  refine wl_v (x_move (tmS rfl rfl)) ?_
  refine wl_v (x_move (tmI rfl rfl)) ?_
  refine wl_v (x_move (tmB rfl rfl)) ?_
  refine wl_e rfl ?_; intro K hK
  refine ow_call Try.func27 rfl rfl (evs_cons (tmS rfl rfl) <| evs_cons (tmI rfl rfl) <| evs_cons (tmB rfl rfl) <| evs_nil) (toobig_c n A c l most six _ (viewV hS.ok 0 rfl) hl hc (by omega) (by omega)) ?_
  rintro e w ⟨A1, k, c1, hk1, rfl, hn, hk⟩
  refine ⟨_, rfl, ?_⟩
  replace hS := hS.add hk hn -- +1
  clear hn hk
  refine hK _ _ ?_; clear hK K
  refine wl_e rfl ?_; intro K hK
  refine ow_call Try.func26 rfl rfl (evs_cons (tmA rfl rfl) <| evs_nil) (of08_c _ _ _ _ _ _ _ _) ?_
  rintro e w ⟨rfl, hk⟩
  refine ⟨_, rfl, ?_⟩
  replace hS := hS.kept hk
  clear hk
  refine hK _ _ ?_; clear hK K
  refine wl_v (x_move (tmS rfl rfl)) ?_
  refine wl_v (x_move (tmI rfl rfl)) ?_
  refine wl_v (x_move (tmB rfl rfl)) ?_
  refine wl_e rfl ?_; intro K hK
  refine ow_call Try.func28 rfl rfl (evs_cons (tmS rfl rfl) <| evs_cons (tmI rfl rfl) <| evs_cons (tmB rfl rfl) <| evs_nil) (rtoobig_c n A c l most six _ (viewV hS.ok 1 rfl) hl hc (by omega) (by omega)) ?_
  rintro e w ⟨A2, k2, c2, hk2, rfl, hn, hk⟩
  refine ⟨_, rfl, ?_⟩
  obtain rfl : k = k2 := hk1.trans hk2.symm
  replace hS := hS.add hk hn -- +1
  clear hn hk
  refine hK _ _ ?_; clear hK K
  refine wl_e rfl ?_; intro K hK
  refine ow_call Try.func25 rfl rfl (evs_cons (tmA rfl rfl) <| evs_cons (tmA rfl rfl) <| evs_nil) (same08_c _ _ _ _ _ _ _ _ _ _ _ _ _ _ (l.take k) (l.take k) _ (viewR hS.ok 1 rfl) (by rw [List.length_take]; omega) (hb.take k) (viewR hS.ok 0 rfl) (by rw [List.length_take]; omega) (hb.take k)) ?_
  rintro e w ⟨rfl, hk⟩
  refine ⟨_, rfl, ?_⟩
  replace hS := hS.kept hk
  clear hk
  refine hK _ _ ?_; clear hK K
  refine wl_v (x_move (tmB rfl rfl)) ?_
  refine gs_wls (tm (t := 21) rfl) (fun hg3_10 => ?_) (fun hg3_10 => ?_)
  · exfalso
    simp at hg3_10
  have hg3_10' := hg3_10; (try simp only [nrm] at hg3_10')
  refine wl_g (want_y rfl rfl rfl rfl (by rw [hg3_10]; rfl)) ?_; intro K hK
  refine ow_call Try.func24 rfl rfl (evs_nil) (law08_awake_c _) ?_
  rintro e w ⟨rfl, hk⟩
  refine ⟨_, rfl, ?_⟩
  replace hS := hS.kept hk
  clear hk
  refine hK _ _ ?_; clear hK K
  refine wl_v (x_pickT (tmB rfl rfl) hg3_10 (tmB rfl rfl)) ?_
  refine wl_v (x_assign (tmB rfl rfl)) ?_
  refine wl_nil ?_
  refine then_n (hK5 _ _ ?_); clear hK5 K5
  refine wp_ret ?_
  refine ret1 rfl (.tmp rfl (show _ = Value.bool _ from rfl)) ?_
  exact ⟨rfl, hS.kp.below⟩
end IcmpBig
end Go.Proofs.Ytchpcijmgnfkfaa
