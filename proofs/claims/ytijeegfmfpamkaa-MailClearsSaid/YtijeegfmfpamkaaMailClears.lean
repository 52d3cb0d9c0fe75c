
/- Proved: MailClears returns true for every input, and changes no memory that was there. Conditions: none. -/
import Derived.Test.YtijeegfmfpamkaaMailC
import Derived.Test.YtijeegfmfpamkaaArgs
namespace Go.Proofs.Ytijeegfmfpamkaa
open Go.ChangeShapes Go.WideShapes Go.ChangeAt Go.RowKit
namespace MailClears
theorem view_on {w0 w : World} {A : Option Addr} {xs : List Value} (h : View w0 w0.heap.size A xs) (hk : Kp [] w0 w) : View w w.heap.size A xs := (h.below hk.below).more hk.size
set_option maxRecDepth 100000 in
set_option maxHeartbeats 4000000 in
theorem walk_all (A0 : Option Addr) (c0 n0 : Nat) (rs : List GLt) (node : Int) (w0 : World) (hv0 : View w0 w0.heap.size A0 (flat GLt.V rs)) (hrs : ∀ p ∈ rs, p.ok w0) (hl0 : rs.length = n0) (hn0 : n0 ≤ 9223372036854775807) :
    Calls Try.prog 3 #[.slice A0 n0 c0, .int .i64 node] w0 fun e w' => e = .returned (.bool true) ∧ Below w0.heap.size w0 w' := by
  have hS := (St.sv w0).vcons rfl hv0
  have hfl0 := flat_length (enc := GLt.V) (l := rs) GLt.len
  refine ent (n := 105) Try.func3 rfl rfl ?_
  refine wp_seq_k ?_; intro K1 hK1
  refine wlit ?_
  refine wl_v (x_assign ev_c) ?_
  refine wl_nil ?_
  refine then_n (hK1 _ _ ?_); clear hK1 K1
  refine wp_seq_k ?_; intro K2 hK2
  refine wp_seq_k ?_; intro K3 hK3
  refine wlit ?_
  refine wl_e rfl ?_; intro K hK
  refine ow_call Try.func5 rfl rfl (evs_nil) (law34_awake_c _) ?_
  rintro e w ⟨rfl, hk1⟩
  refine ⟨_, rfl, ?_⟩
  replace hS := hS.kept hk1
  clear hk1
  refine hK _ _ ?_; clear hK K
  refine wl_v (x_not (tmB rfl rfl)) ?_
  refine wl_nil ?_
  refine then_n (hK3 _ _ ?_); clear hK3 K3
  refine cnd (tm rfl) (fun hc0 => ?_) (fun hc0 => ?_)
  · exfalso
    exact absurd hc0 (by decide)
  try (exfalso; first | with_reducible exact absurd hc0 Bool.false_ne_true | with_reducible exact absurd hc0.symm Bool.false_ne_true | (simp only [nrm] at hc0; omega) | (simp at hc0; done))
  all_goals
   try simp only [nrm] at hc0
   refine wp_skip ?_
   refine then_n (hK2 _ _ ?_); clear hK2 K2
   refine wp_seq_k ?_; intro K4 hK4
   refine wlit ?_
   refine wl_e rfl ?_; intro K hK
   refine ow_call Try.func6 rfl rfl (evs_cons (ev_cN 100) <| evs_nil) (mnew_c 100 _) ?_
   rintro e w ⟨gm, rfl, hn, hk⟩
   refine ⟨_, rfl, ?_⟩
   replace hS := (hS.add hk hn).nilrow 31 3 -- +row,gm
   clear hn hk
   refine hK _ _ ?_; clear hK K
   refine wl_v (x_assign (tmP rfl rfl)) ?_
   refine wl_nil ?_
   refine then_n (hK4 _ _ ?_); clear hK4 K4
   refine wp_seq_k ?_; intro K5 hK5
   refine wlit ?_
   refine wl_v (x_assign ev_c) ?_
   refine wl_nil ?_
   refine then_n (hK5 _ _ ?_); clear hK5 K5
   refine wp_seq_k ?_; intro K6 hK6
   refine wp_seq_k ?_; intro K7 hK7
   refine wlit ?_
   refine wl_v (x_assign (ev_cN 0)) ?_
   refine wl_nil ?_
   refine then_n (hK7 _ _ ?_); clear hK7 K7
   refine wp_block ?_
   have hS := (hS.nilrow 28 3).pick [1, 2, 0, 3] rfl rfl
   refine lp [4, 6, 7, 15, 16, 17, 18, 19, 20, 21, 22, 23, 24, 25, 26, 27, 28, 29, 30, 31, 32, 33, 34, 35, 36, 37, 38, 39, 40, 41, 42, 43, 44, 45, 46, 47, 48, 49, 50, 51, 52, 53, 54, 55, 56, 57, 58, 59, 60, 61, 62, 63, 64] (fun mz g w => ∃ (k : Nat), ∃ (Ka : Option Addr), ∃ (q ck : Nat), ∃ (ls : List GLt), ∃ (B : Option Addr), ∃ (m cb : Nat), mz = n0 - k ∧ g 7 = .int .i64 (k : Int) ∧ g 6 = .slice B m cb ∧ St [] w0 [.row (.slice Ka q ck) 31 3 q (flat GLt.V ls), .blk gm 52 [.slice Ka q ck, .int .i64 100, .int .i64 0], .row (.slice B m cb) 28 3 m (flat GLt.V (keepL node (rs.take k))), .vw A0 (flat GLt.V rs)] w ∧ (k ≤ n0) ∧ (k ≤ 60) ∧ (q = k) ∧ (ls.length = q) ∧ (m = (keepL node (rs.take k)).length) ∧ (ls.map strip = (rs.take k).map strip) ∧ (Aws w (blks [.row (.slice Ka q ck) 31 3 q (flat GLt.V ls), .blk gm 52 [.slice Ka q ck, .int .i64 100, .int .i64 0], .row (.slice B m cb) 28 3 m (flat GLt.V (keepL node (rs.take k)))]) ls)) ?_ ?_
   · exact ⟨_, 0, none, 0, 0, [], none, 0, 0, rfl, (by first | rfl | go_num | exact congrArg (Value.int _) (by first | omega | (simp; done) | (simp; omega))), (by first | rfl | go_num | exact congrArg (Value.int _) (by first | omega | (simp; done) | (simp; omega))), hS, (by omega), (by omega), (by omega), (by first | rfl | (rw [List.length_append, hql]; rfl)), (by first | rfl | (rw [hsn, List.length_append, ← hm]; rfl) | (rw [hsn]; exact hm)), (by first | rfl | exact hls2 _ _), (by first | exact Aws.nil | (rw [hsn, flat_snoc GLt.V (keepL node (rs.take k)) (rs.getD k default)]; exact haw2.step (hS.pick [0, 1, (no_label_rowr)] rfl rfl) rfl) | (rw [hsn]; exact haw2.step (hS.pick [0, 1, (no_label_rowr)] rfl rfl) rfl))⟩
   · clear hS; intro mz g w hI
     obtain ⟨k, Ka, q, ck, ls, B, m, cb, rfl, hs7, hs6, hS, hk, hk60, hq, hql, hm, hls, haw⟩ := hI
     refine fr_know (d := 7) hs7 ?_; clear hs7
     refine fr_know (d := 6) hs6 ?_; clear hs6
     refine wp_seq_k ?_; intro K8 hK8
     refine wp_seq_k ?_; intro K9 hK9
     refine wlit ?_
     refine wl_v (x_move (tmI rfl rfl)) ?_
     refine wl_v (x_move (tmS rfl rfl)) ?_
     refine wl_v (x_len Try.underlying22 (tmS rfl rfl)) ?_
     refine wl_v (x_lss (tmI rfl rfl) (tmI rfl rfl)) ?_
     refine wl_v (x_move (tmB rfl rfl)) ?_
     refine gs_wl (tm (t := 19) rfl) (fun hg6_4 => ?_) (fun hg6_4 => ?_)
     · have hg6_4' := hg6_4; (try simp only [nrm] at hg6_4'); try (exfalso; first | with_reducible exact absurd hg6_4 Bool.false_ne_true | with_reducible exact absurd hg6_4.symm Bool.false_ne_true | omega | (simp at hg6_4; done))
       all_goals
        refine wl_gv (want_y rfl rfl rfl rfl (by rw [hg6_4]; rfl)) (x_move (tmI rfl rfl)) ?_
        refine wl_gv (want_y rfl rfl rfl rfl (by rw [hg6_4]; rfl)) (x_lss (tmI rfl rfl) (ev_cN 60)) ?_
        refine wl_v (x_pickT (tmB rfl rfl) hg6_4 (tmB rfl rfl)) ?_
        refine wl_nil ?_
        refine then_n (hK9 _ _ ?_); clear hK9 K9
        refine cnd (tm rfl) (fun hc1 => ?_) (fun hc1 => ?_)
        · try (exfalso; first | with_reducible exact absurd hc1 Bool.false_ne_true | with_reducible exact absurd hc1.symm Bool.false_ne_true | (simp only [nrm] at hc1; omega) | (simp at hc1; done))
          all_goals
           try simp only [nrm] at hc1
           have hkn : k < n0 := by omega
           have hkc : k < rs.length := by omega
           have hgk : rs[k] = rs.getD k default := by rw [List.getD_eq_getElem?_getD, List.getElem?_eq_getElem hkc]; rfl
           have hsm : rs.getD k default ∈ rs := by
             rw [← hgk]
             exact List.getElem_mem _
           obtain ⟨-, -, hci, -, hbi, hvi⟩ := hrs _ hsm
           obtain ⟨b0, o0, rfl⟩ := view_some hv0 (by rw [hfl0]; omega)
           have hsn := keepL_snoc node rs k hkc
           have hls2 : ∀ A c, (ls ++ [lt (rs.getD k default).node (rs.getD k default).back A (rs.getD k default).b.l c]).map strip = (rs.take (k + 1)).map strip := fun A c => by
             rw [List.map_append, hls, List.take_succ_eq_append_getElem hkc, List.map_append, hgk]
             rfl
           have hkl := keepL_le node (rs.take k)
           rw [← hm, List.length_take] at hkl
           refine wp_skip ?_
           refine then_n (hK8 _ _ ?_); clear hK8 K8
           refine wp_seq_k ?_; intro K10 hK10
           refine wp_block ?_
           refine wp_seq_k ?_; intro K11 hK11
           refine wp_seq_k ?_; intro K12 hK12
           refine wlit ?_
           refine wl_v (x_move (tmS rfl rfl)) ?_
           refine wl_v (x_move (tmI rfl rfl)) ?_
           refine wl_v (x_ixs Try.underlying22 ts_28 (tmS rfl rfl) (tmI rfl rfl) (by omega)) ?_
           refine wl_v (x_fa 2 Try.underlying28 rfl rfl ts_26 (tmP rfl rfl)) ?_
           first
            | refine wl_v (x_load Try.underlying26 rfl (tmP rfl rfl) (cellB hS.ok 1 rfl rfl)) ?_
            | refine wl_v (x_load Try.underlying26 rfl (tmP rfl rfl) (cellR hS.ok 0 rfl rfl)) ?_
            | refine wl_v (x_load Try.underlying26 rfl (tmP rfl rfl) (cellR hS.ok 0 rfl (getm (by omega)))) ?_
            | refine wl_v (x_load Try.underlying26 rfl (tmP rfl rfl) (cellRs hS.ok 0 rfl (fun _ => rfl) rfl (by omega) rfl)) ?_
            | refine wl_v (x_load Try.underlying26 rfl (tmP rfl rfl) (cellR hS.ok 2 rfl rfl)) ?_
            | refine wl_v (x_load Try.underlying26 rfl (tmP rfl rfl) (cellR hS.ok 2 rfl (getm (by omega)))) ?_
            | refine wl_v (x_load Try.underlying26 rfl (tmP rfl rfl) (cellRs hS.ok 2 rfl (fun _ => rfl) rfl (by omega) rfl)) ?_
            | refine wl_v (x_load Try.underlying26 rfl (tmP rfl rfl) (cellV hS.ok 3 rfl rfl)) ?_
            | refine wl_v (x_load Try.underlying26 rfl (tmP rfl rfl) (cellV hS.ok 3 rfl (getm (by omega)))) ?_
            | refine wl_v (x_load Try.underlying26 rfl (tmP rfl rfl) (cellVs hS.ok 3 rfl (fun _ => rfl) rfl (by omega) rfl)) ?_
           refine wl_v (x_len Try.underlying26 (tmS rfl rfl)) ?_
           refine wl_v (x_gtr (tmI rfl rfl) (ev_cN 200)) ?_
           refine wl_nil ?_
           refine then_n (hK12 _ _ ?_); clear hK12 K12
           refine cnd (tm rfl) (fun hc2 => ?_) (fun hc2 => ?_)
           · try (exfalso; first | with_reducible exact absurd hc2 Bool.false_ne_true | with_reducible exact absurd hc2.symm Bool.false_ne_true | (simp only [nrm] at hc2; omega) | (simp at hc2; done))
             all_goals
              try simp only [nrm] at hc2
              refine wp_seq_k ?_; intro K13 hK13
              refine wlit ?_
              refine wl_e rfl ?_; intro K hK
              refine ow_call Try.func5 rfl rfl (evs_nil) (law34_awake_c _) ?_
              rintro e w ⟨rfl, hk1⟩
              refine ⟨_, rfl, ?_⟩
              replace hS := hS.kept hk1
              clear hk1
              refine hK _ _ ?_; clear hK K
              refine wl_v (x_assign (tmB rfl rfl)) ?_
              refine wl_nil ?_
              refine then_n (hK13 _ _ ?_); clear hK13 K13
              refine wp_ret ?_
              refine then_r ?_
              refine inb_r ?_
              refine then_r ?_
              refine then_r ?_
              refine inb_r ?_
              refine then_r ?_
              refine ret1 rfl (.tmp rfl (show _ = Value.bool _ from rfl)) ?_
              exact ⟨rfl, hS.kp.below⟩
           try (exfalso; first | with_reducible exact absurd hc2 Bool.false_ne_true | with_reducible exact absurd hc2.symm Bool.false_ne_true | (simp only [nrm] at hc2; omega) | (simp at hc2; done))
           all_goals
            try simp only [nrm] at hc2
            refine wp_skip ?_
            refine then_n (hK11 _ _ ?_); clear hK11 K11
            refine wp_seq_k ?_; intro K14 hK14
            --ents row,gm,rowr,vx,vw
            have hS0 := hS.argv hvi
            replace hS := hS0.enter [1, 2, 3] [0, 4] rfl rfl
            try replace hS := St.nm (M' := [.row _ _ _ _ _, _, .row _ _ _ _ _, .vw _ _, .vw _ _]) hS rfl
            refine rg_startk 2 hS mixed_ ?_
            clear hS; intro w hS
            refine rg_take 0 rfl rfl (by kernel_rfl) (by kernel_rfl) (by kernel_rfl) (want_0) (fun w hok => x_move (tmP rfl rfl)) ?_
            refine rg_take 1 rfl rfl (by kernel_rfl) (by kernel_rfl) (by kernel_rfl) (want_0) (fun w hok => x_move (tmS rfl rfl)) ?_
            refine rg_take 2 rfl rfl (by kernel_rfl) (by kernel_rfl) (by kernel_rfl) (want_0) (fun w hok => x_move (tmI rfl rfl)) ?_
            refine rg_take 3 rfl rfl (by kernel_rfl) (by kernel_rfl) (by kernel_rfl) (want_0) (fun w hok => x_ixs Try.underlying22 ts_28 (tmS rfl rfl) (tmI rfl rfl) (by omega)) ?_
            refine rg_take 4 rfl rfl (by kernel_rfl) (by kernel_rfl) (by kernel_rfl) (want_0) (fun w hok => x_fa 0 Try.underlying28 rfl rfl ts_3 (tmP rfl rfl)) ?_
            first
             | refine rg_take 5 rfl rfl (by kernel_rfl) (by kernel_rfl) (by kernel_rfl) (want_0) (fun w hok => x_load Try.underlying3 rfl (tmP rfl rfl) (cellR hok 0 rfl rfl)) ?_
             | refine rg_take 5 rfl rfl (by kernel_rfl) (by kernel_rfl) (by kernel_rfl) (want_0) (fun w hok => x_load Try.underlying3 rfl (tmP rfl rfl) (cellR hok 0 rfl (getm (by omega)))) ?_
             | refine rg_take 5 rfl rfl (by kernel_rfl) (by kernel_rfl) (by kernel_rfl) (want_0) (fun w hok => x_load Try.underlying3 rfl (tmP rfl rfl) (cellRs hok 0 rfl (fun _ => rfl) rfl (by omega) rfl)) ?_
             | refine rg_take 5 rfl rfl (by kernel_rfl) (by kernel_rfl) (by kernel_rfl) (want_0) (fun w hok => x_load Try.underlying3 rfl (tmP rfl rfl) (cellV hok 1 rfl rfl)) ?_
             | refine rg_take 5 rfl rfl (by kernel_rfl) (by kernel_rfl) (by kernel_rfl) (want_0) (fun w hok => x_load Try.underlying3 rfl (tmP rfl rfl) (cellV hok 1 rfl (getm (by omega)))) ?_
             | refine rg_take 5 rfl rfl (by kernel_rfl) (by kernel_rfl) (by kernel_rfl) (want_0) (fun w hok => x_load Try.underlying3 rfl (tmP rfl rfl) (cellVs hok 1 rfl (fun _ => rfl) rfl (by omega) rfl)) ?_
             | refine rg_take 5 rfl rfl (by kernel_rfl) (by kernel_rfl) (by kernel_rfl) (want_0) (fun w hok => x_load Try.underlying3 rfl (tmP rfl rfl) (cellV hok 2 rfl rfl)) ?_
             | refine rg_take 5 rfl rfl (by kernel_rfl) (by kernel_rfl) (by kernel_rfl) (want_0) (fun w hok => x_load Try.underlying3 rfl (tmP rfl rfl) (cellV hok 2 rfl (getm (by omega)))) ?_
             | refine rg_take 5 rfl rfl (by kernel_rfl) (by kernel_rfl) (by kernel_rfl) (want_0) (fun w hok => x_load Try.underlying3 rfl (tmP rfl rfl) (cellVs hok 2 rfl (fun _ => rfl) rfl (by omega) rfl)) ?_
            refine rg_take 6 rfl rfl (by kernel_rfl) (by kernel_rfl) (by kernel_rfl) (want_0) (fun w hok => x_move (tmS rfl rfl)) ?_
            refine rg_take 7 rfl rfl (by kernel_rfl) (by kernel_rfl) (by kernel_rfl) (want_0) (fun w hok => x_move (tmI rfl rfl)) ?_
            refine rg_take 8 rfl rfl (by kernel_rfl) (by kernel_rfl) (by kernel_rfl) (want_0) (fun w hok => x_ixs Try.underlying22 ts_28 (tmS rfl rfl) (tmI rfl rfl) (by omega)) ?_
            refine rg_take 9 rfl rfl (by kernel_rfl) (by kernel_rfl) (by kernel_rfl) (want_0) (fun w hok => x_fa 1 Try.underlying28 rfl rfl ts_4 (tmP rfl rfl)) ?_
            first
             | refine rg_take 10 rfl rfl (by kernel_rfl) (by kernel_rfl) (by kernel_rfl) (want_0) (fun w hok => x_load Try.underlying4 rfl (tmP rfl rfl) (cellR hok 0 rfl rfl)) ?_
             | refine rg_take 10 rfl rfl (by kernel_rfl) (by kernel_rfl) (by kernel_rfl) (want_0) (fun w hok => x_load Try.underlying4 rfl (tmP rfl rfl) (cellR hok 0 rfl (getm (by omega)))) ?_
             | refine rg_take 10 rfl rfl (by kernel_rfl) (by kernel_rfl) (by kernel_rfl) (want_0) (fun w hok => x_load Try.underlying4 rfl (tmP rfl rfl) (cellRs hok 0 rfl (fun _ => rfl) rfl (by omega) rfl)) ?_
             | refine rg_take 10 rfl rfl (by kernel_rfl) (by kernel_rfl) (by kernel_rfl) (want_0) (fun w hok => x_load Try.underlying4 rfl (tmP rfl rfl) (cellV hok 1 rfl rfl)) ?_
             | refine rg_take 10 rfl rfl (by kernel_rfl) (by kernel_rfl) (by kernel_rfl) (want_0) (fun w hok => x_load Try.underlying4 rfl (tmP rfl rfl) (cellV hok 1 rfl (getm (by omega)))) ?_
             | refine rg_take 10 rfl rfl (by kernel_rfl) (by kernel_rfl) (by kernel_rfl) (want_0) (fun w hok => x_load Try.underlying4 rfl (tmP rfl rfl) (cellVs hok 1 rfl (fun _ => rfl) rfl (by omega) rfl)) ?_
             | refine rg_take 10 rfl rfl (by kernel_rfl) (by kernel_rfl) (by kernel_rfl) (want_0) (fun w hok => x_load Try.underlying4 rfl (tmP rfl rfl) (cellV hok 2 rfl rfl)) ?_
             | refine rg_take 10 rfl rfl (by kernel_rfl) (by kernel_rfl) (by kernel_rfl) (want_0) (fun w hok => x_load Try.underlying4 rfl (tmP rfl rfl) (cellV hok 2 rfl (getm (by omega)))) ?_
             | refine rg_take 10 rfl rfl (by kernel_rfl) (by kernel_rfl) (by kernel_rfl) (want_0) (fun w hok => x_load Try.underlying4 rfl (tmP rfl rfl) (cellVs hok 2 rfl (fun _ => rfl) rfl (by omega) rfl)) ?_
            refine rg_take 11 rfl rfl (by kernel_rfl) (by kernel_rfl) (by kernel_rfl) (want_0) (fun w hok => x_move (tmS rfl rfl)) ?_
            refine rg_take 12 rfl rfl (by kernel_rfl) (by kernel_rfl) (by kernel_rfl) (want_0) (fun w hok => x_move (tmI rfl rfl)) ?_
            refine rg_take 13 rfl rfl (by kernel_rfl) (by kernel_rfl) (by kernel_rfl) (want_0) (fun w hok => x_ixs Try.underlying22 ts_28 (tmS rfl rfl) (tmI rfl rfl) (by omega)) ?_
            refine rg_take 14 rfl rfl (by kernel_rfl) (by kernel_rfl) (by kernel_rfl) (want_0) (fun w hok => x_fa 2 Try.underlying28 rfl rfl ts_26 (tmP rfl rfl)) ?_
            first
             | refine rg_take 15 rfl rfl (by kernel_rfl) (by kernel_rfl) (by kernel_rfl) (want_0) (fun w hok => x_load Try.underlying26 rfl (tmP rfl rfl) (cellR hok 0 rfl rfl)) ?_
             | refine rg_take 15 rfl rfl (by kernel_rfl) (by kernel_rfl) (by kernel_rfl) (want_0) (fun w hok => x_load Try.underlying26 rfl (tmP rfl rfl) (cellR hok 0 rfl (getm (by omega)))) ?_
             | refine rg_take 15 rfl rfl (by kernel_rfl) (by kernel_rfl) (by kernel_rfl) (want_0) (fun w hok => x_load Try.underlying26 rfl (tmP rfl rfl) (cellRs hok 0 rfl (fun _ => rfl) rfl (by omega) rfl)) ?_
             | refine rg_take 15 rfl rfl (by kernel_rfl) (by kernel_rfl) (by kernel_rfl) (want_0) (fun w hok => x_load Try.underlying26 rfl (tmP rfl rfl) (cellV hok 1 rfl rfl)) ?_
             | refine rg_take 15 rfl rfl (by kernel_rfl) (by kernel_rfl) (by kernel_rfl) (want_0) (fun w hok => x_load Try.underlying26 rfl (tmP rfl rfl) (cellV hok 1 rfl (getm (by omega)))) ?_
             | refine rg_take 15 rfl rfl (by kernel_rfl) (by kernel_rfl) (by kernel_rfl) (want_0) (fun w hok => x_load Try.underlying26 rfl (tmP rfl rfl) (cellVs hok 1 rfl (fun _ => rfl) rfl (by omega) rfl)) ?_
             | refine rg_take 15 rfl rfl (by kernel_rfl) (by kernel_rfl) (by kernel_rfl) (want_0) (fun w hok => x_load Try.underlying26 rfl (tmP rfl rfl) (cellV hok 2 rfl rfl)) ?_
             | refine rg_take 15 rfl rfl (by kernel_rfl) (by kernel_rfl) (by kernel_rfl) (want_0) (fun w hok => x_load Try.underlying26 rfl (tmP rfl rfl) (cellV hok 2 rfl (getm (by omega)))) ?_
             | refine rg_take 15 rfl rfl (by kernel_rfl) (by kernel_rfl) (by kernel_rfl) (want_0) (fun w hok => x_load Try.underlying26 rfl (tmP rfl rfl) (cellVs hok 2 rfl (fun _ => rfl) rfl (by omega) rfl)) ?_
            refine rg_take 16 rfl rfl (by kernel_rfl) (by kernel_rfl) (by kernel_rfl) (want_0) (fun w hok => x_build (bc_take (tmI rfl rfl) <| bc_take (tmB rfl rfl) <| bc_take (tmS rfl rfl) <| bc_nil) (by kernel_rfl)) ?_
            refine rg_step 17 rfl (by kernel_rfl) (want_0) (oks_drop hS 2 rfl) ?_; intro K hK
            refine ow_call Try.func7 rfl rfl (evs_cons (tmP rfl rfl) <| evs_cons (tmA rfl rfl) <| evs_nil) (msend_in gm Ka q ck ls 100 0 (rs.getD k default).node (rs.getD k default).back (rs.getD k default).b.a (rs.getD k default).b.l (rs.getD k default).b.l.length (rs.getD k default).b.c _ _ (hS.enter [0, 1] [3] rfl rfl) rfl (by omega) (by omega) (by omega)) ?_
            rintro e w ⟨A2, c2, K2, k2, rfl, hS2, hnv⟩
            refine ⟨_, rfl, ?_⟩
            replace hS := hS.leavev (M' := [_, _]) [0, 1] [2, 3, 4] rfl rfl rfl hS2 rfl hnv -- +vx2
            clear hS2 hnv
            have haw2 : Aws w (blks [.row (.slice K2 (q + 1) k2) 31 3 (q + 1) (flat GLt.V (ls ++ [lt (rs.getD k default).node (rs.getD k default).back A2 (rs.getD k default).b.l c2])), .blk gm 52 [.slice K2 (q + 1) k2, .int .i64 100, .int .i64 0], .row (.slice B m cb) 28 3 m (flat GLt.V (keepL node (rs.take k)))]) (ls ++ [lt (rs.getD k default).node (rs.getD k default).back A2 (rs.getD k default).b.l c2]) :=
              (haw.step (hS.pick [1, 2, 3] rfl rfl) rfl).snoc (rs.getD k default).node (rs.getD k default).back c2 (hS.pick [0, 1, 2, 3] rfl rfl) rfl
            try replace hS := St.nm (M' := [.vw _ _, .row _ _ _ _ _, _, .row _ _ _ _ _, .vw _ _, .vw _ _]) hS rfl
            refine hK _ _ ?_; clear hK K
            refine rg_done (oks_drop hS 3 rfl) (by kernel_rfl) ?_
            refine then_n (hK14 _ _ ?_); clear hK14 K14
            refine wp_seq_k ?_; intro K15 hK15
            --ents row,gm,rowr,vx,vw
            have hSb := hS0.leave [1, 2, 3] [0, 4] rfl rfl rfl (hS.pick [1, 2, 3] rfl rfl) rfl
            replace hS := hSb.enter [0, 1, 2] [3, 4] rfl rfl
            try replace hS := St.nm (M' := [.row _ _ _ _ _, _, .row _ _ _ _ _, .vw _ _, .vw _ _]) hS rfl
            refine wlit ?_
            refine wl_v (x_move (tmS rfl rfl)) ?_
            refine wl_v (x_move (tmI rfl rfl)) ?_
            refine wl_v (x_ixs Try.underlying22 ts_28 (tmS rfl rfl) (tmI rfl rfl) (by omega)) ?_
            refine wl_v (x_fa 0 Try.underlying28 rfl rfl ts_3 (tmP rfl rfl)) ?_
            first
             | refine wl_v (x_load Try.underlying3 rfl (tmP rfl rfl) (cellB hS.ok 1 rfl rfl)) ?_
             | refine wl_v (x_load Try.underlying3 rfl (tmP rfl rfl) (cellR hS.ok 0 rfl rfl)) ?_
             | refine wl_v (x_load Try.underlying3 rfl (tmP rfl rfl) (cellR hS.ok 0 rfl (getm (by omega)))) ?_
             | refine wl_v (x_load Try.underlying3 rfl (tmP rfl rfl) (cellRs hS.ok 0 rfl (fun _ => rfl) rfl (by omega) rfl)) ?_
             | refine wl_v (x_load Try.underlying3 rfl (tmP rfl rfl) (cellR hS.ok 2 rfl rfl)) ?_
             | refine wl_v (x_load Try.underlying3 rfl (tmP rfl rfl) (cellR hS.ok 2 rfl (getm (by omega)))) ?_
             | refine wl_v (x_load Try.underlying3 rfl (tmP rfl rfl) (cellRs hS.ok 2 rfl (fun _ => rfl) rfl (by omega) rfl)) ?_
             | refine wl_v (x_load Try.underlying3 rfl (tmP rfl rfl) (cellV hS.ok 3 rfl rfl)) ?_
             | refine wl_v (x_load Try.underlying3 rfl (tmP rfl rfl) (cellV hS.ok 3 rfl (getm (by omega)))) ?_
             | refine wl_v (x_load Try.underlying3 rfl (tmP rfl rfl) (cellVs hS.ok 3 rfl (fun _ => rfl) rfl (by omega) rfl)) ?_
             | refine wl_v (x_load Try.underlying3 rfl (tmP rfl rfl) (cellV hS.ok 4 rfl rfl)) ?_
             | refine wl_v (x_load Try.underlying3 rfl (tmP rfl rfl) (cellV hS.ok 4 rfl (getm (by omega)))) ?_
             | refine wl_v (x_load Try.underlying3 rfl (tmP rfl rfl) (cellVs hS.ok 4 rfl (fun _ => rfl) rfl (by omega) rfl)) ?_
            refine wl_v (x_move (tmI rfl rfl)) ?_
            refine wl_v (x_neq (tmI rfl rfl) (tmI rfl rfl)) ?_
            refine wl_nil ?_
            refine then_n (hK15 _ _ ?_); clear hK15 K15
            refine cnd (tm rfl) (fun hc3 => ?_) (fun hc3 => ?_)
            · try (exfalso; first | with_reducible exact absurd hc3 Bool.false_ne_true | with_reducible exact absurd hc3.symm Bool.false_ne_true | (simp only [nrm] at hc3; omega) | (simp at hc3; done))
              all_goals
               try simp only [nrm] at hc3
               rw [if_neg (by simpa using hc3)] at hsn
               refine wlit ?_
               refine wl_v (x_move (tmS rfl rfl)) ?_
               refine wl_v (x_move (tmS rfl rfl)) ?_
               refine wl_v (x_move (tmI rfl rfl)) ?_
               refine wl_v (x_ixs Try.underlying22 ts_28 (tmS rfl rfl) (tmI rfl rfl) (by omega)) ?_
               first
                | refine wl_v (x_loadA (cs := [_, _, _]) Try.underlying28 rfl ts_28 (tmP rfl rfl) (rangeB hS.ok 1 rfl rfl)) ?_
                | refine wl_v (x_loadA Try.underlying28 rfl (by exact ts_28) (tmP rfl rfl) (rangeRs hS.ok 0 rfl (fun _ => rfl) (by omega))) ?_
                | refine wl_v (x_loadA Try.underlying28 rfl (by exact ts_28) (tmP rfl rfl) (rangeRs hS.ok 2 rfl (fun _ => rfl) (by omega))) ?_
                | refine wl_v (x_loadA Try.underlying28 rfl (by exact ts_28) (tmP rfl rfl) (rangeVs hS.ok 3 rfl (fun _ => rfl) (by omega))) ?_
                | refine wl_v (x_loadA Try.underlying28 rfl (by exact ts_28) (tmP rfl rfl) (rangeVs hS.ok 4 rfl (fun _ => rfl) (by omega))) ?_
               refine wl_e rfl ?_; intro K hK
               refine ow_build hS Try.underlying22 tz_28 (bc_takeL (tmA rfl rfl) <| bc_nil) rfl rfl (by kernel_rfl) ?_
               clear hS; intro g12_5 w hg12_5 hS
               refine hK _ _ ?_; clear hK K
               refine wl_e rfl ?_; intro K hK
               first
                | (refine ow_append hS 1 0 rfl rfl Try.underlying22 tz_28 rfl (tmS rfl rfl) (tmS rfl rfl) rfl ⟨by decide, by decide, rfl⟩ (by simp only [maxLen]; omega) (by omega) ?_; clear hS; intro g12_6 cg12_6 w hS)
                | (refine ow_append hS 3 0 rfl rfl Try.underlying22 tz_28 rfl (tmS rfl rfl) (tmS rfl rfl) rfl ⟨by decide, by decide, rfl⟩ (by simp only [maxLen]; omega) (by omega) ?_; clear hS; intro g12_6 cg12_6 w hS)
               refine hK _ _ ?_; clear hK K
               refine wl_v (x_assign (tmS rfl rfl)) ?_
               refine wl_nil ?_
               refine inb_n ?_
               refine then_n (hK10 _ _ ?_); clear hK10 K10
               refine wlit ?_
               refine wl_v (x_move (tmI rfl rfl)) ?_
               first
                | refine wl_v (x_addN (tmI rfl rfl) (ev_cN 1) (fit_i64 (by omega))) ?_
                | refine wl_v (x_addI (tmI rfl rfl) (ev_cN 1) (IntWalk.i64_in _ (by omega))) ?_
                | refine wl_v (x_add (tmI rfl rfl) (ev_cN 1)) ?_
               refine wl_v (x_assign (tmI rfl rfl)) ?_
               refine wl_nil ?_
               first
                | exact then_n ⟨_, _, rfl, (by show _ < _; omega), (by repeat (first | exact agree_self | exact agree_refl | refine agree_upd rfl ?_ | refine agree_mix rfl ?_)), k + 1, K2, q + 1, k2, ls ++ [lt (rs.getD k default).node (rs.getD k default).back A2 (rs.getD k default).b.l c2], some ⟨g12_6, 0, none⟩, m + 1, cg12_6, rfl, (by first | rfl | go_num | exact congrArg (Value.int _) (by first | omega | (simp; done) | (simp; omega))), (by first | rfl | go_num | exact congrArg (Value.int _) (by first | omega | (simp; done) | (simp; omega))), (by rw [hsn, flat_snoc GLt.V (keepL node (rs.take k)) (rs.getD k default)]; exact hSb.leave [0, 1, 2] [4] rfl rfl rfl (hS.pick [1, 2, 3] rfl rfl) rfl), (by omega), (by omega), (by omega), (by first | rfl | (rw [List.length_append, hql]; rfl)), (by first | rfl | (rw [hsn, List.length_append, ← hm]; rfl) | (rw [hsn]; exact hm)), (by first | rfl | exact hls2 _ _), (by first | exact Aws.nil | (rw [hsn, flat_snoc GLt.V (keepL node (rs.take k)) (rs.getD k default)]; exact haw2.step (hS.pick [1, 2, 3] rfl rfl) rfl) | (rw [hsn]; exact haw2.step (hS.pick [1, 2, 3] rfl rfl) rfl))⟩
                | exact then_n ⟨_, _, rfl, (by show _ < _; omega), (by repeat (first | exact agree_self | exact agree_refl | refine agree_upd rfl ?_ | refine agree_mix rfl ?_)), k + 1, K2, q + 1, k2, ls ++ [lt (rs.getD k default).node (rs.getD k default).back A2 (rs.getD k default).b.l c2], B, m, cb, rfl, (by first | rfl | go_num | exact congrArg (Value.int _) (by first | omega | (simp; done) | (simp; omega))), (by first | rfl | go_num | exact congrArg (Value.int _) (by first | omega | (simp; done) | (simp; omega))), (by rw [hsn]; exact hSb.leave [0, 1, 2] [4] rfl rfl rfl (hS.pick [1, 2, 3] rfl rfl) rfl), (by omega), (by omega), (by omega), (by first | rfl | (rw [List.length_append, hql]; rfl)), (by first | rfl | (rw [hsn, List.length_append, ← hm]; rfl) | (rw [hsn]; exact hm)), (by first | rfl | exact hls2 _ _), (by first | exact Aws.nil | (rw [hsn, flat_snoc GLt.V (keepL node (rs.take k)) (rs.getD k default)]; exact haw2.step (hS.pick [1, 2, 3] rfl rfl) rfl) | (rw [hsn]; exact haw2.step (hS.pick [1, 2, 3] rfl rfl) rfl))⟩
            try (exfalso; first | with_reducible exact absurd hc3 Bool.false_ne_true | with_reducible exact absurd hc3.symm Bool.false_ne_true | (simp only [nrm] at hc3; omega) | (simp at hc3; done))
            all_goals
             try simp only [nrm] at hc3
             rw [if_pos (by simpa using hc3)] at hsn
             refine wp_skip ?_
             refine inb_n ?_
             refine then_n (hK10 _ _ ?_); clear hK10 K10
             refine wlit ?_
             refine wl_v (x_move (tmI rfl rfl)) ?_
             first
              | refine wl_v (x_addN (tmI rfl rfl) (ev_cN 1) (fit_i64 (by omega))) ?_
              | refine wl_v (x_addI (tmI rfl rfl) (ev_cN 1) (IntWalk.i64_in _ (by omega))) ?_
              | refine wl_v (x_add (tmI rfl rfl) (ev_cN 1)) ?_
             refine wl_v (x_assign (tmI rfl rfl)) ?_
             refine wl_nil ?_
             first
              | exact then_n ⟨_, _, rfl, (by show _ < _; omega), (by repeat (first | exact agree_self | exact agree_refl | refine agree_upd rfl ?_ | refine agree_mix rfl ?_)), k + 1, K2, q + 1, k2, ls ++ [lt (rs.getD k default).node (rs.getD k default).back A2 (rs.getD k default).b.l c2], some ⟨g12_6, 0, none⟩, m + 1, cg12_6, rfl, (by first | rfl | go_num | exact congrArg (Value.int _) (by first | omega | (simp; done) | (simp; omega))), (by first | rfl | go_num | exact congrArg (Value.int _) (by first | omega | (simp; done) | (simp; omega))), (by rw [hsn, flat_snoc GLt.V (keepL node (rs.take k)) (rs.getD k default)]; exact hSb.leave [0, 1, 2] [4] rfl rfl rfl (hS.pick [0, 1, 2] rfl rfl) rfl), (by omega), (by omega), (by omega), (by first | rfl | (rw [List.length_append, hql]; rfl)), (by first | rfl | (rw [hsn, List.length_append, ← hm]; rfl) | (rw [hsn]; exact hm)), (by first | rfl | exact hls2 _ _), (by first | exact Aws.nil | (rw [hsn, flat_snoc GLt.V (keepL node (rs.take k)) (rs.getD k default)]; exact haw2.step (hS.pick [0, 1, 2] rfl rfl) rfl) | (rw [hsn]; exact haw2.step (hS.pick [0, 1, 2] rfl rfl) rfl))⟩
              | exact then_n ⟨_, _, rfl, (by show _ < _; omega), (by repeat (first | exact agree_self | exact agree_refl | refine agree_upd rfl ?_ | refine agree_mix rfl ?_)), k + 1, K2, q + 1, k2, ls ++ [lt (rs.getD k default).node (rs.getD k default).back A2 (rs.getD k default).b.l c2], B, m, cb, rfl, (by first | rfl | go_num | exact congrArg (Value.int _) (by first | omega | (simp; done) | (simp; omega))), (by first | rfl | go_num | exact congrArg (Value.int _) (by first | omega | (simp; done) | (simp; omega))), (by rw [hsn]; exact hSb.leave [0, 1, 2] [4] rfl rfl rfl (hS.pick [0, 1, 2] rfl rfl) rfl), (by omega), (by omega), (by omega), (by first | rfl | (rw [List.length_append, hql]; rfl)), (by first | rfl | (rw [hsn, List.length_append, ← hm]; rfl) | (rw [hsn]; exact hm)), (by first | rfl | exact hls2 _ _), (by first | exact Aws.nil | (rw [hsn, flat_snoc GLt.V (keepL node (rs.take k)) (rs.getD k default)]; exact haw2.step (hS.pick [0, 1, 2] rfl rfl) rfl) | (rw [hsn]; exact haw2.step (hS.pick [0, 1, 2] rfl rfl) rfl))⟩
        try (exfalso; first | with_reducible exact absurd hc1 Bool.false_ne_true | with_reducible exact absurd hc1.symm Bool.false_ne_true | (simp only [nrm] at hc1; omega) | (simp at hc1; done))
        all_goals
         try simp only [nrm] at hc1
         refine wp_exit ?_
         refine then_x ?_; clear hK8 K8
         refine then_x ?_
         refine inb_x ?_
         refine then_n (hK6 _ _ ?_); clear hK6 K6
         refine wp_seq_k ?_; intro K16 hK16
         refine wlit ?_
         refine wl_v (x_move (tmP rfl rfl)) ?_
         refine wl_e rfl ?_; intro K hK
         refine ow_call Try.func8 rfl rfl (evs_cons (tmP rfl rfl) <| evs_nil) (mlen_c gm Ka q ck 100 0 _ (viewB hS.ok 1 rfl)) ?_
         rintro e w ⟨rfl, hk1⟩
         refine ⟨_, rfl, ?_⟩
         replace hS := hS.kept hk1
         replace haw := haw.kept hk1
         clear hk1
         refine hK _ _ ?_; clear hK K
         refine wl_v (x_assign (tmI rfl rfl)) ?_
         refine wl_nil ?_
         refine then_n (hK16 _ _ ?_); clear hK16 K16
         refine wp_seq_k ?_; intro K17 hK17
         refine wp_seq_k ?_; intro K18 hK18
         --ents row,gm,rowr,vw
         have hSc := hS
         replace hS := hSc.enter [0, 1, 2] [3] rfl rfl
         obtain ⟨RL, hRL⟩ : ∃ RL, keepL node (rs.take k) = RL := ⟨_, rfl⟩
         obtain ⟨KL, hKL⟩ : ∃ KL, keepL node ls = KL := ⟨_, rfl⟩
         have hKR : KL.map strip = RL.map strip := by rw [← hKL, ← hRL]; exact keepL_strip node hls
         have hKRl : KL.length = RL.length := by simpa using congrArg List.length hKR
         have hKs : ∀ r ∈ KL, r ∈ ls := fun r hr => by rw [← hKL] at hr; exact (List.mem_filter.1 hr).1
         have hRs : ∀ r ∈ RL, r ∈ rs := fun r hr => by rw [← hRL] at hr; exact List.mem_of_mem_take (List.mem_filter.1 hr).1
         have hcle := keepL_le node ls
         rw [hKL] at hcle
         rw [hRL] at hm hS haw hSc
         have hCl := fun F w h => mclear_c gm Ka q ck ls 100 0 node F w h hql (by omega) (by omega)
         rw [hKL] at hCl
         try replace hS := St.nm (M' := [.row _ _ _ _ _, _, .row _ _ _ _ _, .vw _ _]) hS rfl
         refine wlit ?_
         refine wl_v (x_move (tmP rfl rfl)) ?_
         refine wl_v (x_move (tmI rfl rfl)) ?_
         refine wl_e rfl ?_; intro K hK
         refine ow_call Try.func9 rfl rfl (evs_cons (tmP rfl rfl) <| evs_cons (tmI rfl rfl) <| evs_nil) (hCl _ _ (hS.enter [0, 1] [] rfl rfl)) ?_
         rintro e w ⟨K3, q3, k3, cl, hq3, hcl, rfl, hS2⟩
         refine ⟨_, rfl, ?_⟩
         replace hS := hS.leave [0, 1] [2, 3] rfl rfl rfl hS2 rfl --ents row,gm,rowr,vw
         clear hS2
         try replace hS := St.nm (M' := [.row _ _ _ _ _, _, .row _ _ _ _ _, .vw _ _]) hS rfl
         refine hK _ _ ?_; clear hK K
         refine wl_v (x_move (tmI rfl rfl)) ?_
         refine wl_v (x_move (tmS rfl rfl)) ?_
         refine wl_v (x_len Try.underlying22 (tmS rfl rfl)) ?_
         first
          | refine wl_v (x_subN (tmI rfl rfl) (tmI rfl rfl) (fit_i64 (by omega)) (by omega)) ?_
          | refine wl_v (x_subI (tmI rfl rfl) (tmI rfl rfl) (IntWalk.i64_in _ (by omega))) ?_
          | refine wl_v (x_sub (tmI rfl rfl) (tmI rfl rfl)) ?_
         refine wl_v (x_neq (tmI rfl rfl) (tmI rfl rfl)) ?_
         refine wl_v (x_move (tmB rfl rfl)) ?_
         refine gs_wl (tm (t := 75) rfl) (fun hg14_8 => ?_) (fun hg14_8 => ?_)
         · exfalso
           first
             | (simp only [nrm] at hg14_8; omega)
             | (simp at hg14_8; omega)
         have hg14_8' := hg14_8; (try simp only [nrm] at hg14_8'); try (exfalso; first | with_reducible exact absurd hg14_8 Bool.false_ne_true | with_reducible exact absurd hg14_8.symm Bool.false_ne_true | omega | (simp at hg14_8; done))
         all_goals
          refine wl_gv (want_y rfl rfl rfl rfl (by rw [hg14_8]; rfl)) (x_move (tmP rfl rfl)) ?_
          refine wl_g (want_y rfl rfl rfl rfl (by rw [hg14_8]; rfl)) ?_; intro K hK
          refine ow_call Try.func8 rfl rfl (evs_cons (tmP rfl rfl) <| evs_nil) (mlen_c gm K3 q3 k3 100 _ _ (viewB hS.ok 1 rfl)) ?_
          rintro e w ⟨rfl, hk1⟩
          refine ⟨_, rfl, ?_⟩
          replace hS := hS.kept hk1
          clear hk1
          refine hK _ _ ?_; clear hK K
          refine wl_gv (want_y rfl rfl rfl rfl (by rw [hg14_8]; rfl)) (x_move (tmS rfl rfl)) ?_
          refine wl_gv (want_y rfl rfl rfl rfl (by rw [hg14_8]; rfl)) (x_len Try.underlying22 (tmS rfl rfl)) ?_
          refine wl_gv (want_y rfl rfl rfl rfl (by rw [hg14_8]; rfl)) (x_neq (tmI rfl rfl) (tmI rfl rfl)) ?_
          refine wl_v (x_pickF (tmB rfl rfl) hg14_8 (tmB rfl rfl)) ?_
          refine wl_nil ?_
          refine then_n (hK18 _ _ ?_); clear hK18 K18
          refine cnd (tm rfl) (fun hc4 => ?_) (fun hc4 => ?_)
          · exfalso
            first
              | (simp only [nrm] at hc4; omega)
              | (simp at hc4; omega)
          try (exfalso; first | with_reducible exact absurd hc4 Bool.false_ne_true | with_reducible exact absurd hc4.symm Bool.false_ne_true | (simp only [nrm] at hc4; omega) | (simp at hc4; done))
          all_goals
           try simp only [nrm] at hc4
           refine wp_skip ?_
           refine then_n (hK17 _ _ ?_); clear hK17 K17
           refine wp_seq_k ?_; intro K19 hK19
           refine wp_seq_k ?_; intro K20 hK20
           --ents row,gm,rowr,vw
           have haw4 : Aws w (blks [.row (.slice K3 q3 k3) 31 3 q3 (flat GLt.V KL), .blk gm 52 [.slice K3 q3 k3, .int .i64 100, .int .i64 ((0 + cl : Nat) : Int)], .row (.slice B m cb) 28 3 m (flat GLt.V RL)]) KL := (haw.step (hS.pick [0, 1, 2] rfl rfl) rfl).sub hKs
           replace hS := hSc.leave [0, 1, 2] [3] rfl rfl rfl (hS.pick [0, 1, 2] rfl rfl) rfl
           try replace hS := St.nm (M' := [.row _ _ _ _ _, _, .row _ _ _ _ _, .vw _ _]) hS rfl
           refine wlit ?_
           refine wl_v (x_assign (ev_cN 0)) ?_
           refine wl_nil ?_
           refine then_n (hK20 _ _ ?_); clear hK20 K20
           refine wp_block ?_
           refine lp [4, 9, 10, 11, 82, 83, 84, 85, 86, 87, 88, 89, 90, 91, 92, 93, 94, 95, 96, 97, 98, 99, 100, 101, 102, 103] (fun mz g w => ∃ (j : Nat), ∃ (K4 : Option Addr), ∃ (q4 k4 : Nat), mz = m - j ∧ g 9 = .int .i64 (j : Int) ∧ St [] w0 [.row (.slice K4 q4 k4) 31 3 q4 (flat GLt.V (KL.drop j)), .blk gm 52 [.slice K4 q4 k4, .int .i64 100, .int .i64 ((0 + cl : Nat) : Int)], .row (.slice B m cb) 28 3 m (flat GLt.V RL), .vw A0 (flat GLt.V rs)] w ∧ (j ≤ m) ∧ (q4 + j = m) ∧ (Aws w (blks [.row (.slice K4 q4 k4) 31 3 q4 (flat GLt.V (KL.drop j)), .blk gm 52 [.slice K4 q4 k4, .int .i64 100, .int .i64 ((0 + cl : Nat) : Int)], .row (.slice B m cb) 28 3 m (flat GLt.V RL)]) (KL.drop j))) ?_ ?_
           · exact ⟨_, 0, _, _, _, rfl, (by first | rfl | go_num | exact congrArg (Value.int _) (by first | omega | (simp; done) | (simp; omega))), hS, (by omega), (by omega), (by first | exact haw4 | (rw [← hcd]; exact (haw.step (hS.pick [0, 1, 2] rfl rfl) rfl).sub hsb))⟩
           · clear hS; intro mz g w hI
             obtain ⟨j, K4, q4, k4, rfl, hs9, hS, hj, hq4, haw⟩ := hI
             refine fr_know (d := 9) hs9 ?_; clear hs9
             refine wp_seq_k ?_; intro K21 hK21
             refine wp_seq_k ?_; intro K22 hK22
             refine wlit ?_
             refine wl_v (x_move (tmI rfl rfl)) ?_
             refine wl_v (x_move (tmS rfl rfl)) ?_
             refine wl_v (x_len Try.underlying22 (tmS rfl rfl)) ?_
             refine wl_v (x_lss (tmI rfl rfl) (tmI rfl rfl)) ?_
             refine wl_nil ?_
             refine then_n (hK22 _ _ ?_); clear hK22 K22
             refine cnd (tm rfl) (fun hc5 => ?_) (fun hc5 => ?_)
             · try (exfalso; first | with_reducible exact absurd hc5 Bool.false_ne_true | with_reducible exact absurd hc5.symm Bool.false_ne_true | (simp only [nrm] at hc5; omega) | (simp at hc5; done))
               all_goals
                try simp only [nrm] at hc5
                have hjm : j < m := by omega
                obtain ⟨gB, rfl⟩ := row_some (hS.rowOk 2 rfl) (by omega)
                have hcd : cutL (KL.drop j) 0 = KL.drop (j + 1) := by
                  unfold cutL
                  rw [List.take_zero, List.nil_append, List.drop_drop]
                have hsb : ∀ r ∈ cutL (KL.drop j) 0, r ∈ KL.drop j := fun r hr => by
                  rw [hcd, ← List.drop_drop] at hr
                  exact List.mem_of_mem_drop hr
                have hxe : (KL.drop j).getD 0 default = KL.getD j default := by
                  rw [List.getD_eq_getElem?_getD, List.getD_eq_getElem?_getD, List.getElem?_drop, Nat.add_zero]
                have hxm : (KL.drop j).getD 0 default ∈ KL.drop j := by
                  rw [List.getD_eq_getElem?_getD, List.getElem?_eq_getElem (by rw [List.length_drop]; omega)]
                  exact List.getElem_mem _
                have hst := strip_get hKR (k := j) (by omega)
                rw [← hxe] at hst
                have hsame : ((KL.drop j).getD 0 default).node = (RL.getD j default).node ∧ ((KL.drop j).getD 0 default).back = (RL.getD j default).back ∧ ((KL.drop j).getD 0 default).b.l = (RL.getD j default).b.l := by
                  simpa [strip] using hst
                have hym : RL.getD j default ∈ RL := by
                  rw [List.getD_eq_getElem?_getD, List.getElem?_eq_getElem (by omega)]
                  exact List.getElem_mem _
                obtain ⟨-, -, -, -, hyb, hyv⟩ := hrs _ (hRs _ hym)
                refine wp_skip ?_
                refine then_n (hK21 _ _ ?_); clear hK21 K21
                refine wp_seq_k ?_; intro K23 hK23
                refine wp_block ?_
                refine wp_seq_k ?_; intro K24 hK24
                --ents row,gm,rowr,vw
                have hSd := hS
                replace hS := hSd.enter [0, 1, 2] [3] rfl rfl
                have hdr : (KL.drop j).length = q4 := by rw [List.length_drop]; omega
                have hT := fun F w h => mtake_in gm K4 q4 k4 (KL.drop j) 100 ((0 + cl : Nat) : Int) 0 F w h hdr (by omega) (by omega)
                try replace hS := St.nm (M' := [.row _ _ _ _ _, _, .row _ _ _ _ _, .vw _ _]) hS rfl
                refine wlit ?_
                refine wl_v (x_move (tmP rfl rfl)) ?_
                refine wl_e rfl ?_; intro K hK
                refine ow_call Try.func10 rfl rfl (evs_cons (tmP rfl rfl) <| evs_cons (ev_cN 0) <| evs_nil) (hT _ _ (hS.enter [0, 1] [] rfl rfl)) ?_
                rintro e w ⟨K5, k5, rfl, hS2⟩
                refine ⟨_, rfl, ?_⟩
                replace hS := hS.leave [0, 1] [2, 3] rfl rfl rfl hS2 rfl --ents row,gm,rowr,vw
                clear hS2
                try replace hS := St.nm (M' := [.row _ _ _ _ _, _, .row _ _ _ _ _, .vw _ _]) hS rfl
                refine hK _ _ ?_; clear hK K
                refine wl_v (x_move (tmT rfl rfl)) ?_
                refine wl_v (x_ext (tmT rfl rfl) rfl) ?_
                refine wl_v (x_ext (tmT rfl rfl) rfl) ?_
                refine wl_e rfl ?_; intro K hK
                refine ow_alloc hS tz_31 rfl ?_
                clear hS; intro g19_5 w hg19_5 hS
                refine hK _ _ ?_; clear hK K
                refine wl_e rfl ?_; intro K hK
                refine ow_storeA hS 0 rfl ts_31 (tmP rfl rfl) (tmA rfl rfl) rfl rfl rfl ?_
                clear hS; intro w hS
                try replace hS := St.nm (M' := [.blk _ _ [_, _, _], .row _ _ _ _ _, _, .row _ _ _ _ _, .vw _ _]) hS rfl
                refine hK _ _ ?_; clear hK K
                refine wl_v (x_assign (tmI rfl rfl)) ?_
                refine wl_nil ?_
                refine then_n (hK24 _ _ ?_); clear hK24 K24
                refine wp_seq_k ?_; intro K25 hK25
                refine rg_startk 0 hS mixed_ ?_
                clear hS; intro w hS
                refine rg_take 0 rfl rfl (by kernel_rfl) (by kernel_rfl) (by kernel_rfl) (want_0) (fun w hok => x_move (tmI rfl rfl)) ?_
                refine rg_take 1 rfl rfl (by kernel_rfl) (by kernel_rfl) (by kernel_rfl) (want_0) (fun w hok => x_neq (tmI rfl rfl) (ev_cN 0)) ?_
                refine rg_take 2 rfl rfl (by kernel_rfl) (by kernel_rfl) (by kernel_rfl) (want_0) (fun w hok => x_move (tmB rfl rfl)) ?_
                refine gs_rg (tm (t := 95) rfl) (fun hg20_2 => ?_) (fun hg20_2 => ?_)
                · exfalso
                  first
                    | (simp only [nrm] at hg20_2; omega)
                    | (simp at hg20_2)
                have hg20_2' := hg20_2; (try simp only [nrm] at hg20_2'); try (exfalso; first | with_reducible exact absurd hg20_2 Bool.false_ne_true | with_reducible exact absurd hg20_2.symm Bool.false_ne_true | omega | (simp at hg20_2; done))
                all_goals
                 refine rg_take 3 rfl rfl (by kernel_rfl) (by kernel_rfl) (by kernel_rfl) (want_y rfl rfl rfl rfl (by rw [hg20_2]; rfl)) (fun w hok => x_loadA (cs := [_, _, _]) Try.underlying31 rfl ts_31 (tmP rfl rfl) (rangeB hok 0 rfl rfl)) ?_
                 refine rg_take 4 rfl rfl (by kernel_rfl) (by kernel_rfl) (by kernel_rfl) (want_y rfl rfl rfl rfl (by rw [hg20_2]; rfl)) (fun w hok => x_move (tmS rfl rfl)) ?_
                 refine rg_take 5 rfl rfl (by kernel_rfl) (by kernel_rfl) (by kernel_rfl) (want_y rfl rfl rfl rfl (by rw [hg20_2]; rfl)) (fun w hok => x_move (tmI rfl rfl)) ?_
                 refine rg_take 6 rfl rfl (by kernel_rfl) (by kernel_rfl) (by kernel_rfl) (want_y rfl rfl rfl rfl (by rw [hg20_2]; rfl)) (fun w hok => x_ixs Try.underlying22 ts_28 (tmS rfl rfl) (tmI rfl rfl) (by omega)) ?_
                 first
                  | refine rg_take 7 rfl rfl (by kernel_rfl) (by kernel_rfl) (by kernel_rfl) (want_y rfl rfl rfl rfl (by rw [hg20_2]; rfl)) (fun w hok => x_loadA (cs := [_, _, _]) Try.underlying28 rfl ts_28 (tmP rfl rfl) (rangeB hok 2 rfl rfl)) ?_
                  | refine rg_take 7 rfl rfl (by kernel_rfl) (by kernel_rfl) (by kernel_rfl) (want_y rfl rfl rfl rfl (by rw [hg20_2]; rfl)) (fun w hok => x_loadA Try.underlying28 rfl (by exact ts_28) (tmP rfl rfl) (rangeRs hok 1 rfl (fun _ => rfl) (by omega))) ?_
                  | refine rg_take 7 rfl rfl (by kernel_rfl) (by kernel_rfl) (by kernel_rfl) (want_y rfl rfl rfl rfl (by rw [hg20_2]; rfl)) (fun w hok => x_loadA Try.underlying28 rfl (by exact ts_28) (tmP rfl rfl) (rangeRs hok 3 rfl (fun _ => rfl) (by omega))) ?_
                  | refine rg_take 7 rfl rfl (by kernel_rfl) (by kernel_rfl) (by kernel_rfl) (want_y rfl rfl rfl rfl (by rw [hg20_2]; rfl)) (fun w hok => x_loadA Try.underlying28 rfl (by exact ts_28) (tmP rfl rfl) (rangeVs hok 4 rfl (fun _ => rfl) (by omega))) ?_
                 refine rg_step 8 rfl (by kernel_rfl) (want_y rfl rfl rfl rfl (by rw [hg20_2]; rfl)) (oks_drop hS 0 rfl) ?_; intro K hK
                 refine ow_call Try.func11 rfl rfl (evs_cons (tmA rfl rfl) <| evs_cons (tmA rfl rfl) <| evs_nil) (same_c ((KL.drop j).getD 0 default) (RL.getD j default) _ hsame (haw.step (hS.pick [1, 2, 3] rfl rfl) rfl _ hxm).1 (view_on hyv (hSd.kpc (is := [0, 1, 2]) rfl rfl hS)) hyb) ?_
                 rintro e w ⟨rfl, hk1⟩
                 refine ⟨_, rfl, ?_⟩
                 replace hS := hS.kept hk1
                 clear hk1
                 refine hK _ _ ?_; clear hK K
                 refine rg_take 9 rfl rfl (by kernel_rfl) (by kernel_rfl) (by kernel_rfl) (want_y rfl rfl rfl rfl (by rw [hg20_2]; rfl)) (fun w hok => x_not (tmB rfl rfl)) ?_
                 refine rg_take 10 rfl rfl (by kernel_rfl) (by kernel_rfl) (by kernel_rfl) (want_0) (fun w hok => x_pickF (tmB rfl rfl) hg20_2 (tmB rfl rfl)) ?_
                 refine rg_done (oks_drop hS 0 rfl) (by kernel_rfl) ?_
                 refine then_n (hK25 _ _ ?_); clear hK25 K25
                 refine cnd (tm rfl) (fun hc6 => ?_) (fun hc6 => ?_)
                 · exfalso
                   simp at hc6
                 try (exfalso; first | with_reducible exact absurd hc6 Bool.false_ne_true | with_reducible exact absurd hc6.symm Bool.false_ne_true | (simp only [nrm] at hc6; omega) | (simp at hc6; done))
                 all_goals
                  try simp only [nrm] at hc6
                  refine wp_skip ?_
                  refine inb_n ?_
                  refine then_n (hK23 _ _ ?_); clear hK23 K23
                  refine wlit ?_
                  refine wl_v (x_move (tmI rfl rfl)) ?_
                  first
                   | refine wl_v (x_addN (tmI rfl rfl) (ev_cN 1) (fit_i64 (by omega))) ?_
                   | refine wl_v (x_addI (tmI rfl rfl) (ev_cN 1) (IntWalk.i64_in _ (by omega))) ?_
                   | refine wl_v (x_add (tmI rfl rfl) (ev_cN 1)) ?_
                  refine wl_v (x_assign (tmI rfl rfl)) ?_
                  refine wl_nil ?_
                  exact then_n ⟨_, _, rfl, (by show _ < _; omega), (by repeat (first | exact agree_self | exact agree_refl | refine agree_upd rfl ?_ | refine agree_mix rfl ?_)), j + 1, _, _, _, rfl, (by first | rfl | go_num | exact congrArg (Value.int _) (by first | omega | (simp; done) | (simp; omega))), (by rw [← hcd]; exact hSd.leave [0, 1, 2] [3] rfl rfl rfl (hS.pick [1, 2, 3] rfl rfl) rfl), (by omega), (by omega), (by first | exact haw4 | (rw [← hcd]; exact (haw.step (hS.pick [1, 2, 3] rfl rfl) rfl).sub hsb))⟩
             try (exfalso; first | with_reducible exact absurd hc5 Bool.false_ne_true | with_reducible exact absurd hc5.symm Bool.false_ne_true | (simp only [nrm] at hc5; omega) | (simp at hc5; done))
             all_goals
              try simp only [nrm] at hc5
              refine wp_exit ?_
              refine then_x ?_; clear hK21 K21
              refine then_x ?_
              refine inb_x ?_
              refine then_n (hK19 _ _ ?_); clear hK19 K19
              refine wp_seq_k ?_; intro K26 hK26
              refine wlit ?_
              refine wl_e rfl ?_; intro K hK
              refine ow_call Try.func5 rfl rfl (evs_nil) (law34_awake_c _) ?_
              rintro e w ⟨rfl, hk1⟩
              refine ⟨_, rfl, ?_⟩
              replace hS := hS.kept hk1
              clear hk1
              refine hK _ _ ?_; clear hK K
              refine wl_v (x_assign (tmB rfl rfl)) ?_
              refine wl_nil ?_
              refine then_n (hK26 _ _ ?_); clear hK26 K26
              refine wp_ret ?_
              refine ret1 rfl (.tmp rfl (show _ = Value.bool _ from rfl)) ?_
              exact ⟨rfl, hS.kp.below⟩
     have hg6_4' := hg6_4; (try simp only [nrm] at hg6_4'); try (exfalso; first | with_reducible exact absurd hg6_4 Bool.false_ne_true | with_reducible exact absurd hg6_4.symm Bool.false_ne_true | omega | (simp at hg6_4; done))
     all_goals
      refine wl_s rfl (want_n rfl rfl rfl rfl (by rw [hg6_4]; rfl)) ?_
      refine wl_s rfl (want_n rfl rfl rfl rfl (by rw [hg6_4]; rfl)) ?_
      refine wl_v (x_pickF (tmB rfl rfl) hg6_4 ev_c) ?_
      refine wl_nil ?_
      refine then_n (hK9 _ _ ?_); clear hK9 K9
      refine cnd_f (tmB rfl rfl) rfl ?_
      refine wp_exit ?_
      refine then_x ?_; clear hK8 K8
      refine then_x ?_
      refine inb_x ?_
      refine then_n (hK6 _ _ ?_); clear hK6 K6
      refine wp_seq_k ?_; intro K27 hK27
      refine wlit ?_
      refine wl_v (x_move (tmP rfl rfl)) ?_
      refine wl_e rfl ?_; intro K hK
      refine ow_call Try.func8 rfl rfl (evs_cons (tmP rfl rfl) <| evs_nil) (mlen_c gm Ka q ck 100 0 _ (viewB hS.ok 1 rfl)) ?_
      rintro e w ⟨rfl, hk1⟩
      refine ⟨_, rfl, ?_⟩
      replace hS := hS.kept hk1
      replace haw := haw.kept hk1
      clear hk1
      refine hK _ _ ?_; clear hK K
      refine wl_v (x_assign (tmI rfl rfl)) ?_
      refine wl_nil ?_
      refine then_n (hK27 _ _ ?_); clear hK27 K27
      refine wp_seq_k ?_; intro K28 hK28
      refine wp_seq_k ?_; intro K29 hK29
      --ents row,gm,rowr,vw
      have hSc := hS
      replace hS := hSc.enter [0, 1, 2] [3] rfl rfl
      obtain ⟨RL, hRL⟩ : ∃ RL, keepL node (rs.take k) = RL := ⟨_, rfl⟩
      obtain ⟨KL, hKL⟩ : ∃ KL, keepL node ls = KL := ⟨_, rfl⟩
      have hKR : KL.map strip = RL.map strip := by rw [← hKL, ← hRL]; exact keepL_strip node hls
      have hKRl : KL.length = RL.length := by simpa using congrArg List.length hKR
      have hKs : ∀ r ∈ KL, r ∈ ls := fun r hr => by rw [← hKL] at hr; exact (List.mem_filter.1 hr).1
      have hRs : ∀ r ∈ RL, r ∈ rs := fun r hr => by rw [← hRL] at hr; exact List.mem_of_mem_take (List.mem_filter.1 hr).1
      have hcle := keepL_le node ls
      rw [hKL] at hcle
      rw [hRL] at hm hS haw hSc
      have hCl := fun F w h => mclear_c gm Ka q ck ls 100 0 node F w h hql (by omega) (by omega)
      rw [hKL] at hCl
      try replace hS := St.nm (M' := [.row _ _ _ _ _, _, .row _ _ _ _ _, .vw _ _]) hS rfl
      refine wlit ?_
      refine wl_v (x_move (tmP rfl rfl)) ?_
      refine wl_v (x_move (tmI rfl rfl)) ?_
      refine wl_e rfl ?_; intro K hK
      refine ow_call Try.func9 rfl rfl (evs_cons (tmP rfl rfl) <| evs_cons (tmI rfl rfl) <| evs_nil) (hCl _ _ (hS.enter [0, 1] [] rfl rfl)) ?_
      rintro e w ⟨K3, q3, k3, cl, hq3, hcl, rfl, hS2⟩
      refine ⟨_, rfl, ?_⟩
      replace hS := hS.leave [0, 1] [2, 3] rfl rfl rfl hS2 rfl --ents row,gm,rowr,vw
      clear hS2
      try replace hS := St.nm (M' := [.row _ _ _ _ _, _, .row _ _ _ _ _, .vw _ _]) hS rfl
      refine hK _ _ ?_; clear hK K
      refine wl_v (x_move (tmI rfl rfl)) ?_
      refine wl_v (x_move (tmS rfl rfl)) ?_
      refine wl_v (x_len Try.underlying22 (tmS rfl rfl)) ?_
      first
       | refine wl_v (x_subN (tmI rfl rfl) (tmI rfl rfl) (fit_i64 (by omega)) (by omega)) ?_
       | refine wl_v (x_subI (tmI rfl rfl) (tmI rfl rfl) (IntWalk.i64_in _ (by omega))) ?_
       | refine wl_v (x_sub (tmI rfl rfl) (tmI rfl rfl)) ?_
      refine wl_v (x_neq (tmI rfl rfl) (tmI rfl rfl)) ?_
      refine wl_v (x_move (tmB rfl rfl)) ?_
      refine gs_wl (tm (t := 75) rfl) (fun hg14_8 => ?_) (fun hg14_8 => ?_)
      · exfalso
        first
          | (simp only [nrm] at hg14_8; omega)
          | (simp at hg14_8; omega)
      have hg14_8' := hg14_8; (try simp only [nrm] at hg14_8'); try (exfalso; first | with_reducible exact absurd hg14_8 Bool.false_ne_true | with_reducible exact absurd hg14_8.symm Bool.false_ne_true | omega | (simp at hg14_8; done))
      all_goals
       refine wl_gv (want_y rfl rfl rfl rfl (by rw [hg14_8]; rfl)) (x_move (tmP rfl rfl)) ?_
       refine wl_g (want_y rfl rfl rfl rfl (by rw [hg14_8]; rfl)) ?_; intro K hK
       refine ow_call Try.func8 rfl rfl (evs_cons (tmP rfl rfl) <| evs_nil) (mlen_c gm K3 q3 k3 100 _ _ (viewB hS.ok 1 rfl)) ?_
       rintro e w ⟨rfl, hk1⟩
       refine ⟨_, rfl, ?_⟩
       replace hS := hS.kept hk1
       clear hk1
       refine hK _ _ ?_; clear hK K
       refine wl_gv (want_y rfl rfl rfl rfl (by rw [hg14_8]; rfl)) (x_move (tmS rfl rfl)) ?_
       refine wl_gv (want_y rfl rfl rfl rfl (by rw [hg14_8]; rfl)) (x_len Try.underlying22 (tmS rfl rfl)) ?_
       refine wl_gv (want_y rfl rfl rfl rfl (by rw [hg14_8]; rfl)) (x_neq (tmI rfl rfl) (tmI rfl rfl)) ?_
       refine wl_v (x_pickF (tmB rfl rfl) hg14_8 (tmB rfl rfl)) ?_
       refine wl_nil ?_
       refine then_n (hK29 _ _ ?_); clear hK29 K29
       refine cnd (tm rfl) (fun hc4 => ?_) (fun hc4 => ?_)
       · exfalso
         first
           | (simp only [nrm] at hc4; omega)
           | (simp at hc4; omega)
       try (exfalso; first | with_reducible exact absurd hc4 Bool.false_ne_true | with_reducible exact absurd hc4.symm Bool.false_ne_true | (simp only [nrm] at hc4; omega) | (simp at hc4; done))
       all_goals
        try simp only [nrm] at hc4
        refine wp_skip ?_
        refine then_n (hK28 _ _ ?_); clear hK28 K28
        refine wp_seq_k ?_; intro K30 hK30
        refine wp_seq_k ?_; intro K31 hK31
        --ents row,gm,rowr,vw
        have haw4 : Aws w (blks [.row (.slice K3 q3 k3) 31 3 q3 (flat GLt.V KL), .blk gm 52 [.slice K3 q3 k3, .int .i64 100, .int .i64 ((0 + cl : Nat) : Int)], .row (.slice B m cb) 28 3 m (flat GLt.V RL)]) KL := (haw.step (hS.pick [0, 1, 2] rfl rfl) rfl).sub hKs
        replace hS := hSc.leave [0, 1, 2] [3] rfl rfl rfl (hS.pick [0, 1, 2] rfl rfl) rfl
        try replace hS := St.nm (M' := [.row _ _ _ _ _, _, .row _ _ _ _ _, .vw _ _]) hS rfl
        refine wlit ?_
        refine wl_v (x_assign (ev_cN 0)) ?_
        refine wl_nil ?_
        refine then_n (hK31 _ _ ?_); clear hK31 K31
        refine wp_block ?_
        refine lp [4, 9, 10, 11, 82, 83, 84, 85, 86, 87, 88, 89, 90, 91, 92, 93, 94, 95, 96, 97, 98, 99, 100, 101, 102, 103] (fun mz g w => ∃ (j : Nat), ∃ (K4 : Option Addr), ∃ (q4 k4 : Nat), mz = m - j ∧ g 9 = .int .i64 (j : Int) ∧ St [] w0 [.row (.slice K4 q4 k4) 31 3 q4 (flat GLt.V (KL.drop j)), .blk gm 52 [.slice K4 q4 k4, .int .i64 100, .int .i64 ((0 + cl : Nat) : Int)], .row (.slice B m cb) 28 3 m (flat GLt.V RL), .vw A0 (flat GLt.V rs)] w ∧ (j ≤ m) ∧ (q4 + j = m) ∧ (Aws w (blks [.row (.slice K4 q4 k4) 31 3 q4 (flat GLt.V (KL.drop j)), .blk gm 52 [.slice K4 q4 k4, .int .i64 100, .int .i64 ((0 + cl : Nat) : Int)], .row (.slice B m cb) 28 3 m (flat GLt.V RL)]) (KL.drop j))) ?_ ?_
        · exact ⟨_, 0, _, _, _, rfl, (by first | rfl | go_num | exact congrArg (Value.int _) (by first | omega | (simp; done) | (simp; omega))), hS, (by omega), (by omega), (by first | exact haw4 | (rw [← hcd]; exact (haw.step (hS.pick [0, 1, 2] rfl rfl) rfl).sub hsb))⟩
        · clear hS; intro mz g w hI
          obtain ⟨j, K4, q4, k4, rfl, hs9, hS, hj, hq4, haw⟩ := hI
          refine fr_know (d := 9) hs9 ?_; clear hs9
          refine wp_seq_k ?_; intro K32 hK32
          refine wp_seq_k ?_; intro K33 hK33
          refine wlit ?_
          refine wl_v (x_move (tmI rfl rfl)) ?_
          refine wl_v (x_move (tmS rfl rfl)) ?_
          refine wl_v (x_len Try.underlying22 (tmS rfl rfl)) ?_
          refine wl_v (x_lss (tmI rfl rfl) (tmI rfl rfl)) ?_
          refine wl_nil ?_
          refine then_n (hK33 _ _ ?_); clear hK33 K33
          refine cnd (tm rfl) (fun hc5 => ?_) (fun hc5 => ?_)
          · try (exfalso; first | with_reducible exact absurd hc5 Bool.false_ne_true | with_reducible exact absurd hc5.symm Bool.false_ne_true | (simp only [nrm] at hc5; omega) | (simp at hc5; done))
            all_goals
             try simp only [nrm] at hc5
             have hjm : j < m := by omega
             obtain ⟨gB, rfl⟩ := row_some (hS.rowOk 2 rfl) (by omega)
             have hcd : cutL (KL.drop j) 0 = KL.drop (j + 1) := by
               unfold cutL
               rw [List.take_zero, List.nil_append, List.drop_drop]
             have hsb : ∀ r ∈ cutL (KL.drop j) 0, r ∈ KL.drop j := fun r hr => by
               rw [hcd, ← List.drop_drop] at hr
               exact List.mem_of_mem_drop hr
             have hxe : (KL.drop j).getD 0 default = KL.getD j default := by
               rw [List.getD_eq_getElem?_getD, List.getD_eq_getElem?_getD, List.getElem?_drop, Nat.add_zero]
             have hxm : (KL.drop j).getD 0 default ∈ KL.drop j := by
               rw [List.getD_eq_getElem?_getD, List.getElem?_eq_getElem (by rw [List.length_drop]; omega)]
               exact List.getElem_mem _
             have hst := strip_get hKR (k := j) (by omega)
             rw [← hxe] at hst
             have hsame : ((KL.drop j).getD 0 default).node = (RL.getD j default).node ∧ ((KL.drop j).getD 0 default).back = (RL.getD j default).back ∧ ((KL.drop j).getD 0 default).b.l = (RL.getD j default).b.l := by
               simpa [strip] using hst
             have hym : RL.getD j default ∈ RL := by
               rw [List.getD_eq_getElem?_getD, List.getElem?_eq_getElem (by omega)]
               exact List.getElem_mem _
             obtain ⟨-, -, -, -, hyb, hyv⟩ := hrs _ (hRs _ hym)
             refine wp_skip ?_
             refine then_n (hK32 _ _ ?_); clear hK32 K32
             refine wp_seq_k ?_; intro K34 hK34
             refine wp_block ?_
             refine wp_seq_k ?_; intro K35 hK35
             --ents row,gm,rowr,vw
             have hSd := hS
             replace hS := hSd.enter [0, 1, 2] [3] rfl rfl
             have hdr : (KL.drop j).length = q4 := by rw [List.length_drop]; omega
             have hT := fun F w h => mtake_in gm K4 q4 k4 (KL.drop j) 100 ((0 + cl : Nat) : Int) 0 F w h hdr (by omega) (by omega)
             try replace hS := St.nm (M' := [.row _ _ _ _ _, _, .row _ _ _ _ _, .vw _ _]) hS rfl
             refine wlit ?_
             refine wl_v (x_move (tmP rfl rfl)) ?_
             refine wl_e rfl ?_; intro K hK
             refine ow_call Try.func10 rfl rfl (evs_cons (tmP rfl rfl) <| evs_cons (ev_cN 0) <| evs_nil) (hT _ _ (hS.enter [0, 1] [] rfl rfl)) ?_
             rintro e w ⟨K5, k5, rfl, hS2⟩
             refine ⟨_, rfl, ?_⟩
             replace hS := hS.leave [0, 1] [2, 3] rfl rfl rfl hS2 rfl --ents row,gm,rowr,vw
             clear hS2
             try replace hS := St.nm (M' := [.row _ _ _ _ _, _, .row _ _ _ _ _, .vw _ _]) hS rfl
             refine hK _ _ ?_; clear hK K
             refine wl_v (x_move (tmT rfl rfl)) ?_
             refine wl_v (x_ext (tmT rfl rfl) rfl) ?_
             refine wl_v (x_ext (tmT rfl rfl) rfl) ?_
             refine wl_e rfl ?_; intro K hK
             refine ow_alloc hS tz_31 rfl ?_
             clear hS; intro g19_5 w hg19_5 hS
             refine hK _ _ ?_; clear hK K
             refine wl_e rfl ?_; intro K hK
             refine ow_storeA hS 0 rfl ts_31 (tmP rfl rfl) (tmA rfl rfl) rfl rfl rfl ?_
             clear hS; intro w hS
             try replace hS := St.nm (M' := [.blk _ _ [_, _, _], .row _ _ _ _ _, _, .row _ _ _ _ _, .vw _ _]) hS rfl
             refine hK _ _ ?_; clear hK K
             refine wl_v (x_assign (tmI rfl rfl)) ?_
             refine wl_nil ?_
             refine then_n (hK35 _ _ ?_); clear hK35 K35
             refine wp_seq_k ?_; intro K36 hK36
             refine rg_startk 0 hS mixed_ ?_
             clear hS; intro w hS
             refine rg_take 0 rfl rfl (by kernel_rfl) (by kernel_rfl) (by kernel_rfl) (want_0) (fun w hok => x_move (tmI rfl rfl)) ?_
             refine rg_take 1 rfl rfl (by kernel_rfl) (by kernel_rfl) (by kernel_rfl) (want_0) (fun w hok => x_neq (tmI rfl rfl) (ev_cN 0)) ?_
             refine rg_take 2 rfl rfl (by kernel_rfl) (by kernel_rfl) (by kernel_rfl) (want_0) (fun w hok => x_move (tmB rfl rfl)) ?_
             refine gs_rg (tm (t := 95) rfl) (fun hg20_2 => ?_) (fun hg20_2 => ?_)
             · exfalso
               first
                 | (simp only [nrm] at hg20_2; omega)
                 | (simp at hg20_2)
             have hg20_2' := hg20_2; (try simp only [nrm] at hg20_2'); try (exfalso; first | with_reducible exact absurd hg20_2 Bool.false_ne_true | with_reducible exact absurd hg20_2.symm Bool.false_ne_true | omega | (simp at hg20_2; done))
             all_goals
              refine rg_take 3 rfl rfl (by kernel_rfl) (by kernel_rfl) (by kernel_rfl) (want_y rfl rfl rfl rfl (by rw [hg20_2]; rfl)) (fun w hok => x_loadA (cs := [_, _, _]) Try.underlying31 rfl ts_31 (tmP rfl rfl) (rangeB hok 0 rfl rfl)) ?_
              refine rg_take 4 rfl rfl (by kernel_rfl) (by kernel_rfl) (by kernel_rfl) (want_y rfl rfl rfl rfl (by rw [hg20_2]; rfl)) (fun w hok => x_move (tmS rfl rfl)) ?_
              refine rg_take 5 rfl rfl (by kernel_rfl) (by kernel_rfl) (by kernel_rfl) (want_y rfl rfl rfl rfl (by rw [hg20_2]; rfl)) (fun w hok => x_move (tmI rfl rfl)) ?_
              refine rg_take 6 rfl rfl (by kernel_rfl) (by kernel_rfl) (by kernel_rfl) (want_y rfl rfl rfl rfl (by rw [hg20_2]; rfl)) (fun w hok => x_ixs Try.underlying22 ts_28 (tmS rfl rfl) (tmI rfl rfl) (by omega)) ?_
              first
               | refine rg_take 7 rfl rfl (by kernel_rfl) (by kernel_rfl) (by kernel_rfl) (want_y rfl rfl rfl rfl (by rw [hg20_2]; rfl)) (fun w hok => x_loadA (cs := [_, _, _]) Try.underlying28 rfl ts_28 (tmP rfl rfl) (rangeB hok 2 rfl rfl)) ?_
               | refine rg_take 7 rfl rfl (by kernel_rfl) (by kernel_rfl) (by kernel_rfl) (want_y rfl rfl rfl rfl (by rw [hg20_2]; rfl)) (fun w hok => x_loadA Try.underlying28 rfl (by exact ts_28) (tmP rfl rfl) (rangeRs hok 1 rfl (fun _ => rfl) (by omega))) ?_
               | refine rg_take 7 rfl rfl (by kernel_rfl) (by kernel_rfl) (by kernel_rfl) (want_y rfl rfl rfl rfl (by rw [hg20_2]; rfl)) (fun w hok => x_loadA Try.underlying28 rfl (by exact ts_28) (tmP rfl rfl) (rangeRs hok 3 rfl (fun _ => rfl) (by omega))) ?_
               | refine rg_take 7 rfl rfl (by kernel_rfl) (by kernel_rfl) (by kernel_rfl) (want_y rfl rfl rfl rfl (by rw [hg20_2]; rfl)) (fun w hok => x_loadA Try.underlying28 rfl (by exact ts_28) (tmP rfl rfl) (rangeVs hok 4 rfl (fun _ => rfl) (by omega))) ?_
              refine rg_step 8 rfl (by kernel_rfl) (want_y rfl rfl rfl rfl (by rw [hg20_2]; rfl)) (oks_drop hS 0 rfl) ?_; intro K hK
              refine ow_call Try.func11 rfl rfl (evs_cons (tmA rfl rfl) <| evs_cons (tmA rfl rfl) <| evs_nil) (same_c ((KL.drop j).getD 0 default) (RL.getD j default) _ hsame (haw.step (hS.pick [1, 2, 3] rfl rfl) rfl _ hxm).1 (view_on hyv (hSd.kpc (is := [0, 1, 2]) rfl rfl hS)) hyb) ?_
              rintro e w ⟨rfl, hk1⟩
              refine ⟨_, rfl, ?_⟩
              replace hS := hS.kept hk1
              clear hk1
              refine hK _ _ ?_; clear hK K
              refine rg_take 9 rfl rfl (by kernel_rfl) (by kernel_rfl) (by kernel_rfl) (want_y rfl rfl rfl rfl (by rw [hg20_2]; rfl)) (fun w hok => x_not (tmB rfl rfl)) ?_
              refine rg_take 10 rfl rfl (by kernel_rfl) (by kernel_rfl) (by kernel_rfl) (want_0) (fun w hok => x_pickF (tmB rfl rfl) hg20_2 (tmB rfl rfl)) ?_
              refine rg_done (oks_drop hS 0 rfl) (by kernel_rfl) ?_
              refine then_n (hK36 _ _ ?_); clear hK36 K36
              refine cnd (tm rfl) (fun hc6 => ?_) (fun hc6 => ?_)
              · exfalso
                simp at hc6
              try (exfalso; first | with_reducible exact absurd hc6 Bool.false_ne_true | with_reducible exact absurd hc6.symm Bool.false_ne_true | (simp only [nrm] at hc6; omega) | (simp at hc6; done))
              all_goals
               try simp only [nrm] at hc6
               refine wp_skip ?_
               refine inb_n ?_
               refine then_n (hK34 _ _ ?_); clear hK34 K34
               refine wlit ?_
               refine wl_v (x_move (tmI rfl rfl)) ?_
               first
                | refine wl_v (x_addN (tmI rfl rfl) (ev_cN 1) (fit_i64 (by omega))) ?_
                | refine wl_v (x_addI (tmI rfl rfl) (ev_cN 1) (IntWalk.i64_in _ (by omega))) ?_
                | refine wl_v (x_add (tmI rfl rfl) (ev_cN 1)) ?_
               refine wl_v (x_assign (tmI rfl rfl)) ?_
               refine wl_nil ?_
               exact then_n ⟨_, _, rfl, (by show _ < _; omega), (by repeat (first | exact agree_self | exact agree_refl | refine agree_upd rfl ?_ | refine agree_mix rfl ?_)), j + 1, _, _, _, rfl, (by first | rfl | go_num | exact congrArg (Value.int _) (by first | omega | (simp; done) | (simp; omega))), (by rw [← hcd]; exact hSd.leave [0, 1, 2] [3] rfl rfl rfl (hS.pick [1, 2, 3] rfl rfl) rfl), (by omega), (by omega), (by first | exact haw4 | (rw [← hcd]; exact (haw.step (hS.pick [1, 2, 3] rfl rfl) rfl).sub hsb))⟩
          try (exfalso; first | with_reducible exact absurd hc5 Bool.false_ne_true | with_reducible exact absurd hc5.symm Bool.false_ne_true | (simp only [nrm] at hc5; omega) | (simp at hc5; done))
          all_goals
           try simp only [nrm] at hc5
           refine wp_exit ?_
           refine then_x ?_; clear hK32 K32
           refine then_x ?_
           refine inb_x ?_
           refine then_n (hK30 _ _ ?_); clear hK30 K30
           refine wp_seq_k ?_; intro K37 hK37
           refine wlit ?_
           refine wl_e rfl ?_; intro K hK
           refine ow_call Try.func5 rfl rfl (evs_nil) (law34_awake_c _) ?_
           rintro e w ⟨rfl, hk1⟩
           refine ⟨_, rfl, ?_⟩
           replace hS := hS.kept hk1
           clear hk1
           refine hK _ _ ?_; clear hK K
           refine wl_v (x_assign (tmB rfl rfl)) ?_
           refine wl_nil ?_
           refine then_n (hK37 _ _ ?_); clear hK37 K37
           refine wp_ret ?_
           refine ret1 rfl (.tmp rfl (show _ = Value.bool _ from rfl)) ?_
           exact ⟨rfl, hS.kp.below⟩
set_option maxRecDepth 100000 in
theorem walk {H : Type} {enc : TypeId × Value → H} {r : Reach} {b0 : Nat} {d : DataW H} {ps : List MemPlace} (v : Value) (node : Int) (w0 : World)
    (hval : Value.okWide Try.prog w0 r b0 22 v) (hd : DataW.Trod enc Try.prog w0 0 (fun _ => true) true 22 v d ps) (hlt : ∀ x ∈ ps, x.block < w0.heap.size) (_hn : -9223372036854775808 ≤ node ∧ node ≤ 9223372036854775807) :
    Calls Try.prog 3 #[v, .int .i64 node] w0 fun e w' => e = .returned (.bool true) ∧ Below w0.heap.size w0 w' := by
  obtain ⟨s, rfl, hnc, hcm, hv, hall⟩ := arg_sl (V := GLt.V) (ok := fun r => r.ok w0) Try.underlying22 3 (by kernel_rfl) (by omega) GLt.open_t hval hd hlt
  have hmx : maxLen = 9223372036854775807 := by simp [maxLen]
  rw [hmx] at hcm
  exact walk_all s.a s.c s.l.length s.l node w0 hv hall rfl (Nat.le_trans hnc hcm)
end MailClears
end Go.Proofs.Ytijeegfmfpamkaa
