
/- codec: the reference's Op by contract. Conditions: the operation is right. -/
import Derived.Test.YtoaodcbfehfdoaaCoD
namespace Go.Proofs.Ytoaodcbfehfdoaa
open Go.ChangeShapes Go.WideShapes Go.ChangeAt Go.RowKit
set_option maxRecDepth 100000 in
set_option maxHeartbeats 16000000 in
theorem rop_n_c (kn vp bn vn wn port proto : Nat) (a : Ad) (L : Option Addr) (n c : Nat) (l : List Mm) (w0 : World) (hv : View w0 w0.heap.size L (flat mmV l)) (hl : l.length = n) (hn64 : n ≤ 64) (hms : okMs l) (h1 : kn ≤ 255) (h2 : vp ≤ 255) (h3 : bn ≤ 255) (h4 : vn ≤ 255) (h5 : wn ≤ 255) (hp : port ≤ 65535) (hq : proto ≤ 255) (hla : adLim a) :
    Calls Try.prog 13 #[.agg [.int .i64 (kn : Int), .int .i64 (vp : Int), .int .i64 (bn : Int), .int .i64 (vn : Int), .bool a.six, .int .u64 (a.high : Int), .int .u64 (a.low : Int), .int .u16 (port : Int), .int .u8 (proto : Int), .int .i64 (wn : Int), .slice L n c].toArray] w0 fun e w' => ∃ G m cg, e = .returned (.slice G m cg) ∧ m = (joined [(none, [kn, vp, bn, vn], 4), (none, adE a, 0), (none, be port 2, 2), (none, [proto, wn], 2), (none, n :: msE l, 0)]).length ∧ New w0 w' (.row (.slice G m cg) 5 1 m ((joined [(none, [kn, vp, bn, vn], 4), (none, adE a, 0), (none, be port 2, 2), (none, [proto, wn], 2), (none, n :: msE l, 0)]).map u8v)) ∧ Kp [] w0 w' := by
  have hn16 := adN_le a
  have hjl : (joined [((none : Option Addr), [kn, vp, bn, vn], 4), (none, adE a, 0), (none, be port 2, 2), (none, [proto, wn], 2), (none, n :: msE l, 0)]).length ≤ 1000 := by
    simp only [joined, List.map_cons, List.map_nil, List.flatten_cons, List.flatten_nil, List.length_append, List.length_cons, List.length_nil, adE_len, be_length, msE_len]
    omega
  generalize hJ : joined [((none : Option Addr), [kn, vp, bn, vn], 4), (none, adE a, 0), (none, be port 2, 2), (none, [proto, wn], 2), (none, n :: msE l, 0)] = J at *
  have hS := (St.sv w0).vcons rfl hv
  refine ent (n := 34) Try.func13 rfl rfl ?_
  refine wp_seq_k ?_; intro K1 hK1
  refine wlit ?_
  refine wl_e rfl ?_; intro K hK
  refine ow_box hS (tmA rfl rfl) rfl ?_
  clear hS; intro g0_0 w hg0_0 hS
  refine hK _ _ ?_; clear hK K
  refine wl_v (x_assign ev_c) ?_
  refine wl_nil ?_
  refine then_n (hK1 _ _ ?_); clear hK1 K1
  refine wp_seq_k ?_; intro K2 hK2
  refine cutc [2, 3, 4, 5, 6, 7, 8, 9, 10, 11, 12, 13, 14, 15, 16, 17, 18, 19, 20, 21, 22, 23, 24, 25, 26, 27, 28, 29, 30, 31, 32, 33] (fun g w => ∃ (G : Option Addr), ∃ (m cg : Nat), g 2 = .slice G m cg ∧ St [] w0 [.row (.slice G m cg) 5 1 m (J.map u8v)] w ∧ (m = J.length)) ?_ ?_
  · skip
    refine rg_startk 0 hS mixed_ ?_
    clear hS; intro w hS
    refine rg_take 0 rfl rfl (by kernel_rfl) (by kernel_rfl) (by kernel_rfl) (want_0) (fun w hok => x_fa 0 Try.underlying28 rfl rfl ts_3 (tmP rfl rfl)) ?_
    first
     | refine rg_take 1 rfl rfl (by kernel_rfl) (by kernel_rfl) (by kernel_rfl) (want_0) (fun w hok => x_load Try.underlying3 rfl (tmP rfl rfl) (cellB hok 0 rfl rfl)) ?_
     | refine rg_take 1 rfl rfl (by kernel_rfl) (by kernel_rfl) (by kernel_rfl) (want_0) (fun w hok => x_load Try.underlying3 rfl (tmP rfl rfl) (cellB hok 0 rfl (getm (by omega)))) ?_
    first
     | refine rg_take 2 rfl rfl (by kernel_rfl) (by kernel_rfl) (by kernel_rfl) (want_0) (fun w hok => x_convN Try.underlying3 Try.underlying5 (tmI rfl rfl) (fit_u8 (by omega))) ?_
     | refine rg_take 2 rfl rfl (by kernel_rfl) (by kernel_rfl) (by kernel_rfl) (want_0) (fun w hok => x_convU Try.underlying3 Try.underlying5 (tmI rfl rfl) rfl) ?_
     | refine rg_take 2 rfl rfl (by kernel_rfl) (by kernel_rfl) (by kernel_rfl) (want_0) (fun w hok => x_conv Try.underlying3 Try.underlying5 (tmI rfl rfl)) ?_
    refine rg_take 3 rfl rfl (by kernel_rfl) (by kernel_rfl) (by kernel_rfl) (want_0) (fun w hok => x_fa 1 Try.underlying28 rfl rfl ts_3 (tmP rfl rfl)) ?_
    first
     | refine rg_take 4 rfl rfl (by kernel_rfl) (by kernel_rfl) (by kernel_rfl) (want_0) (fun w hok => x_load Try.underlying3 rfl (tmP rfl rfl) (cellB hok 0 rfl rfl)) ?_
     | refine rg_take 4 rfl rfl (by kernel_rfl) (by kernel_rfl) (by kernel_rfl) (want_0) (fun w hok => x_load Try.underlying3 rfl (tmP rfl rfl) (cellB hok 0 rfl (getm (by omega)))) ?_
    first
     | refine rg_take 5 rfl rfl (by kernel_rfl) (by kernel_rfl) (by kernel_rfl) (want_0) (fun w hok => x_convN Try.underlying3 Try.underlying5 (tmI rfl rfl) (fit_u8 (by omega))) ?_
     | refine rg_take 5 rfl rfl (by kernel_rfl) (by kernel_rfl) (by kernel_rfl) (want_0) (fun w hok => x_convU Try.underlying3 Try.underlying5 (tmI rfl rfl) rfl) ?_
     | refine rg_take 5 rfl rfl (by kernel_rfl) (by kernel_rfl) (by kernel_rfl) (want_0) (fun w hok => x_conv Try.underlying3 Try.underlying5 (tmI rfl rfl)) ?_
    refine rg_take 6 rfl rfl (by kernel_rfl) (by kernel_rfl) (by kernel_rfl) (want_0) (fun w hok => x_fa 2 Try.underlying28 rfl rfl ts_3 (tmP rfl rfl)) ?_
    first
     | refine rg_take 7 rfl rfl (by kernel_rfl) (by kernel_rfl) (by kernel_rfl) (want_0) (fun w hok => x_load Try.underlying3 rfl (tmP rfl rfl) (cellB hok 0 rfl rfl)) ?_
     | refine rg_take 7 rfl rfl (by kernel_rfl) (by kernel_rfl) (by kernel_rfl) (want_0) (fun w hok => x_load Try.underlying3 rfl (tmP rfl rfl) (cellB hok 0 rfl (getm (by omega)))) ?_
    first
     | refine rg_take 8 rfl rfl (by kernel_rfl) (by kernel_rfl) (by kernel_rfl) (want_0) (fun w hok => x_convN Try.underlying3 Try.underlying5 (tmI rfl rfl) (fit_u8 (by omega))) ?_
     | refine rg_take 8 rfl rfl (by kernel_rfl) (by kernel_rfl) (by kernel_rfl) (want_0) (fun w hok => x_convU Try.underlying3 Try.underlying5 (tmI rfl rfl) rfl) ?_
     | refine rg_take 8 rfl rfl (by kernel_rfl) (by kernel_rfl) (by kernel_rfl) (want_0) (fun w hok => x_conv Try.underlying3 Try.underlying5 (tmI rfl rfl)) ?_
    refine rg_take 9 rfl rfl (by kernel_rfl) (by kernel_rfl) (by kernel_rfl) (want_0) (fun w hok => x_fa 3 Try.underlying28 rfl rfl ts_3 (tmP rfl rfl)) ?_
    first
     | refine rg_take 10 rfl rfl (by kernel_rfl) (by kernel_rfl) (by kernel_rfl) (want_0) (fun w hok => x_load Try.underlying3 rfl (tmP rfl rfl) (cellB hok 0 rfl rfl)) ?_
     | refine rg_take 10 rfl rfl (by kernel_rfl) (by kernel_rfl) (by kernel_rfl) (want_0) (fun w hok => x_load Try.underlying3 rfl (tmP rfl rfl) (cellB hok 0 rfl (getm (by omega)))) ?_
    first
     | refine rg_take 11 rfl rfl (by kernel_rfl) (by kernel_rfl) (by kernel_rfl) (want_0) (fun w hok => x_convN Try.underlying3 Try.underlying5 (tmI rfl rfl) (fit_u8 (by omega))) ?_
     | refine rg_take 11 rfl rfl (by kernel_rfl) (by kernel_rfl) (by kernel_rfl) (want_0) (fun w hok => x_convU Try.underlying3 Try.underlying5 (tmI rfl rfl) rfl) ?_
     | refine rg_take 11 rfl rfl (by kernel_rfl) (by kernel_rfl) (by kernel_rfl) (want_0) (fun w hok => x_conv Try.underlying3 Try.underlying5 (tmI rfl rfl)) ?_
    refine rg_take 13 rfl rfl (by kernel_rfl) (by kernel_rfl) (by kernel_rfl) (want_0) (fun w hok => x_fa 4 Try.underlying28 rfl rfl ts_24 (tmP rfl rfl)) ?_
    refine rg_take 14 rfl rfl (by kernel_rfl) (by kernel_rfl) (by kernel_rfl) (want_0) (fun w hok => x_loadA (cs := [_, _, _]) Try.underlying24 rfl ts_24 (tmP rfl rfl) (rangeB hok 0 rfl rfl)) ?_
    refine rg_take 16 rfl rfl (by kernel_rfl) (by kernel_rfl) (by kernel_rfl) (want_0) (fun w hok => x_fa 7 Try.underlying28 rfl rfl ts_25 (tmP rfl rfl)) ?_
    first
     | refine rg_take 17 rfl rfl (by kernel_rfl) (by kernel_rfl) (by kernel_rfl) (want_0) (fun w hok => x_load Try.underlying25 rfl (tmP rfl rfl) (cellB hok 0 rfl rfl)) ?_
     | refine rg_take 17 rfl rfl (by kernel_rfl) (by kernel_rfl) (by kernel_rfl) (want_0) (fun w hok => x_load Try.underlying25 rfl (tmP rfl rfl) (cellB hok 0 rfl (getm (by omega)))) ?_
    first
     | refine rg_take 18 rfl rfl (by kernel_rfl) (by kernel_rfl) (by kernel_rfl) (want_0) (fun w hok => x_convN Try.underlying25 Try.underlying22 (tmI rfl rfl) (fit_u64 (by omega))) ?_
     | refine rg_take 18 rfl rfl (by kernel_rfl) (by kernel_rfl) (by kernel_rfl) (want_0) (fun w hok => x_convU Try.underlying25 Try.underlying22 (tmI rfl rfl) rfl) ?_
     | refine rg_take 18 rfl rfl (by kernel_rfl) (by kernel_rfl) (by kernel_rfl) (want_0) (fun w hok => x_conv Try.underlying25 Try.underlying22 (tmI rfl rfl)) ?_
    refine rg_take 20 rfl rfl (by kernel_rfl) (by kernel_rfl) (by kernel_rfl) (want_0) (fun w hok => x_fa 8 Try.underlying28 rfl rfl ts_5 (tmP rfl rfl)) ?_
    first
     | refine rg_take 21 rfl rfl (by kernel_rfl) (by kernel_rfl) (by kernel_rfl) (want_0) (fun w hok => x_load Try.underlying5 rfl (tmP rfl rfl) (cellB hok 0 rfl rfl)) ?_
     | refine rg_take 21 rfl rfl (by kernel_rfl) (by kernel_rfl) (by kernel_rfl) (want_0) (fun w hok => x_load Try.underlying5 rfl (tmP rfl rfl) (cellB hok 0 rfl (getm (by omega)))) ?_
    refine rg_take 22 rfl rfl (by kernel_rfl) (by kernel_rfl) (by kernel_rfl) (want_0) (fun w hok => x_fa 9 Try.underlying28 rfl rfl ts_3 (tmP rfl rfl)) ?_
    first
     | refine rg_take 23 rfl rfl (by kernel_rfl) (by kernel_rfl) (by kernel_rfl) (want_0) (fun w hok => x_load Try.underlying3 rfl (tmP rfl rfl) (cellB hok 0 rfl rfl)) ?_
     | refine rg_take 23 rfl rfl (by kernel_rfl) (by kernel_rfl) (by kernel_rfl) (want_0) (fun w hok => x_load Try.underlying3 rfl (tmP rfl rfl) (cellB hok 0 rfl (getm (by omega)))) ?_
    first
     | refine rg_take 24 rfl rfl (by kernel_rfl) (by kernel_rfl) (by kernel_rfl) (want_0) (fun w hok => x_convN Try.underlying3 Try.underlying5 (tmI rfl rfl) (fit_u8 (by omega))) ?_
     | refine rg_take 24 rfl rfl (by kernel_rfl) (by kernel_rfl) (by kernel_rfl) (want_0) (fun w hok => x_convU Try.underlying3 Try.underlying5 (tmI rfl rfl) rfl) ?_
     | refine rg_take 24 rfl rfl (by kernel_rfl) (by kernel_rfl) (by kernel_rfl) (want_0) (fun w hok => x_conv Try.underlying3 Try.underlying5 (tmI rfl rfl)) ?_
    refine rg_take 26 rfl rfl (by kernel_rfl) (by kernel_rfl) (by kernel_rfl) (want_0) (fun w hok => x_fa 10 Try.underlying28 rfl rfl ts_26 (tmP rfl rfl)) ?_
    first
     | refine rg_take 27 rfl rfl (by kernel_rfl) (by kernel_rfl) (by kernel_rfl) (want_0) (fun w hok => x_load Try.underlying26 rfl (tmP rfl rfl) (cellB hok 0 rfl rfl)) ?_
     | refine rg_take 27 rfl rfl (by kernel_rfl) (by kernel_rfl) (by kernel_rfl) (want_0) (fun w hok => x_load Try.underlying26 rfl (tmP rfl rfl) (cellB hok 0 rfl (getm (by omega)))) ?_
    refine rg_step3 12 15 25 rfl rfl rfl (by kernel_rfl) (want_0) (want_0) (want_0) (oks_drop hS 0 rfl) ?_ ?_ ?_
    · intro K hK
      refine ow_build hS Try.underlying29 tz_5 (bc_take (tmI rfl rfl) <| bc_take (tmI rfl rfl) <| bc_take (tmI rfl rfl) <| bc_take (tmI rfl rfl) <| bc_nil) rfl rfl (by kernel_rfl) ?_
      clear hS; intro g1_12 w hg1_12 hS
      refine hK _ _ ?_; clear hK K
      refine rg_step2 15 25 rfl rfl (by kernel_rfl) (want_0) (want_0) (oks_drop hS 1 rfl) ?_ ?_
      · intro K hK
        refine ow_call Try.func32 rfl rfl (evs_cons (tmA rfl rfl) <| evs_nil) (rplace_c a _ hla) ?_
        rintro e w ⟨A2, m2, c2, rfl, hm2, hn2, hk⟩
        refine ⟨_, rfl, ?_⟩
        replace hS := hS.add hk hn2 -- +rowp
        clear hn2 hk
        refine hK _ _ ?_; clear hK K
        refine rg_step2 19 25 rfl rfl (by kernel_rfl) (want_0) (want_0) (oks_drop hS 2 rfl) ?_ ?_
        · intro K hK
          refine ow_call Try.func33 rfl rfl (evs_cons (tmI rfl rfl) <| evs_cons (ev_cN 2) <| evs_nil) (rbytes_c port 2 _ (by omega) (by omega)) ?_
          rintro e w ⟨ga, rfl, hn3, hk⟩
          refine ⟨_, rfl, ?_⟩
          replace hS := hS.add hk hn3 -- +rowb
          clear hn3 hk
          refine hK _ _ ?_; clear hK K
          refine rg_step2 25 28 rfl rfl (by kernel_rfl) (want_0) (want_0) (oks_drop hS 3 rfl) ?_ ?_
          · intro K hK
            refine ow_build hS Try.underlying29 tz_5 (bc_take (tmI rfl rfl) <| bc_take (tmI rfl rfl) <| bc_nil) rfl rfl (by kernel_rfl) ?_
            clear hS; intro g1_25 w hg1_25 hS
            refine hK _ _ ?_; clear hK K
            refine rg_step 28 rfl (by kernel_rfl) (want_0) (oks_drop hS 4 rfl) ?_; intro K hK
            refine ow_call Try.func34 rfl rfl (evs_cons (tmS rfl rfl) <| evs_nil) (rmembers_c L n c l _ (viewV hS.ok 5 rfl) hl hn64 hms) ?_
            rintro e w ⟨A5, m5, c5, rfl, hm5, hn5, hk⟩
            refine ⟨_, rfl, ?_⟩
            replace hS := hS.add hk hn5 -- +rowm
            clear hn5 hk
            have hlm : (n :: msE l).length = m5 := by rw [List.length_cons, msE_len]; omega
            refine hK _ _ ?_; clear hK K
            refine rg_step 29 rfl (by kernel_rfl) (want_0) (oks_drop hS 5 rfl) ?_; intro K hK
            refine ow_build hS Try.underlying77 tz_29 (bc_take (tmS rfl rfl) <| bc_take (tmS rfl rfl) <| bc_take (tmS rfl rfl) <| bc_take (tmS rfl rfl) <| bc_take (tmS rfl rfl) <| bc_nil) rfl rfl (by kernel_rfl) ?_
            clear hS; intro g1_29 w hg1_29 hS
            refine hK _ _ ?_; clear hK K
            refine rg_step 30 rfl (by kernel_rfl) (want_0) (oks_drop hS 6 rfl) ?_; intro K hK
            refine ow_call Try.func31 rfl rfl (evs_cons (tmS rfl rfl) <| evs_nil) (join_c 5 _ _ [(some ⟨g1_12, 0, none⟩, [kn, vp, bn, vn], 4), (A2, adE a, c2), (some ⟨ga, 0, none⟩, be port 2, 2), (some ⟨g1_25, 0, none⟩, [proto, wn], 2), (A5, n :: msE l, c5)] _ (by have h := viewB hS.ok 0 rfl; simp only [List.map_cons, List.map_nil, rowV, be_length, hlm, ← hm2]; exact h) (seen_cons (viewB hS.ok 5 rfl) <| seen_cons (viewR hS.ok 4 rfl) <| seen_cons (viewR hS.ok 3 rfl) <| seen_cons (viewB hS.ok 2 rfl) <| seen_cons (viewR hS.ok 1 rfl) seen_nil) rfl (by omega) (by show (joined [((none : Option Addr), [kn, vp, bn, vn], 4), (none, adE a, 0), (none, be port 2, 2), (none, [proto, wn], 2), (none, n :: msE l, 0)]).length ≤ _; rw [hJ]; omega)) ?_
            rintro e w ⟨Aj, mj, cj, hmj, rfl, hnj, hk⟩
            refine ⟨_, rfl, ?_⟩
            replace hS := hS.add hk hnj -- +row
            replace hS := hS.nm (M' := .row (.slice Aj mj cj) 5 1 mj (J.map u8v) :: _) (by rw [← hJ]; rfl)
            replace hmj : mj = J.length := by rw [hmj, ← hJ]; rfl
            clear hnj hk
            refine hK _ _ ?_; clear hK K
            refine rg_take 31 rfl rfl (by kernel_rfl) (by kernel_rfl) (by kernel_rfl) (want_0) (fun w hok => x_assign (tmS rfl rfl)) ?_
            refine rg_done (oks_drop hS 7 rfl) (by kernel_rfl) ?_
            exact then_n ⟨_, rfl, (by repeat (first | exact agree_self | exact agree_refl | refine agree_upd rfl ?_ | refine agree_mix rfl ?_)), _, _, _, (by first | rfl | go_num | exact congrArg (Value.int _) (by first | omega | (simp; done) | (simp; omega))), (hS.pick [0] rfl rfl), (by exact hmj)⟩
          · intro K hK
            refine ow_call Try.func34 rfl rfl (evs_cons (tmS rfl rfl) <| evs_nil) (rmembers_c L n c l _ (viewV hS.ok 4 rfl) hl hn64 hms) ?_
            rintro e w ⟨A5, m5, c5, rfl, hm5, hn5, hk⟩
            refine ⟨_, rfl, ?_⟩
            replace hS := hS.add hk hn5 -- +rowm
            clear hn5 hk
            have hlm : (n :: msE l).length = m5 := by rw [List.length_cons, msE_len]; omega
            refine hK _ _ ?_; clear hK K
            refine rg_step 25 rfl (by kernel_rfl) (want_0) (oks_drop hS 4 rfl) ?_; intro K hK
            refine ow_build hS Try.underlying29 tz_5 (bc_take (tmI rfl rfl) <| bc_take (tmI rfl rfl) <| bc_nil) rfl rfl (by kernel_rfl) ?_
            clear hS; intro g1_25 w hg1_25 hS
            refine hK _ _ ?_; clear hK K
            refine rg_step 29 rfl (by kernel_rfl) (want_0) (oks_drop hS 5 rfl) ?_; intro K hK
            refine ow_build hS Try.underlying77 tz_29 (bc_take (tmS rfl rfl) <| bc_take (tmS rfl rfl) <| bc_take (tmS rfl rfl) <| bc_take (tmS rfl rfl) <| bc_take (tmS rfl rfl) <| bc_nil) rfl rfl (by kernel_rfl) ?_
            clear hS; intro g1_29 w hg1_29 hS
            refine hK _ _ ?_; clear hK K
            refine rg_step 30 rfl (by kernel_rfl) (want_0) (oks_drop hS 6 rfl) ?_; intro K hK
            refine ow_call Try.func31 rfl rfl (evs_cons (tmS rfl rfl) <| evs_nil) (join_c 5 _ _ [(some ⟨g1_12, 0, none⟩, [kn, vp, bn, vn], 4), (A2, adE a, c2), (some ⟨ga, 0, none⟩, be port 2, 2), (some ⟨g1_25, 0, none⟩, [proto, wn], 2), (A5, n :: msE l, c5)] _ (by have h := viewB hS.ok 0 rfl; simp only [List.map_cons, List.map_nil, rowV, be_length, hlm, ← hm2]; exact h) (seen_cons (viewB hS.ok 5 rfl) <| seen_cons (viewR hS.ok 4 rfl) <| seen_cons (viewR hS.ok 3 rfl) <| seen_cons (viewB hS.ok 1 rfl) <| seen_cons (viewR hS.ok 2 rfl) seen_nil) rfl (by omega) (by show (joined [((none : Option Addr), [kn, vp, bn, vn], 4), (none, adE a, 0), (none, be port 2, 2), (none, [proto, wn], 2), (none, n :: msE l, 0)]).length ≤ _; rw [hJ]; omega)) ?_
            rintro e w ⟨Aj, mj, cj, hmj, rfl, hnj, hk⟩
            refine ⟨_, rfl, ?_⟩
            replace hS := hS.add hk hnj -- +row
            replace hS := hS.nm (M' := .row (.slice Aj mj cj) 5 1 mj (J.map u8v) :: _) (by rw [← hJ]; rfl)
            replace hmj : mj = J.length := by rw [hmj, ← hJ]; rfl
            clear hnj hk
            refine hK _ _ ?_; clear hK K
            refine rg_take 31 rfl rfl (by kernel_rfl) (by kernel_rfl) (by kernel_rfl) (want_0) (fun w hok => x_assign (tmS rfl rfl)) ?_
            refine rg_done (oks_drop hS 7 rfl) (by kernel_rfl) ?_
            exact then_n ⟨_, rfl, (by repeat (first | exact agree_self | exact agree_refl | refine agree_upd rfl ?_ | refine agree_mix rfl ?_)), _, _, _, (by first | rfl | go_num | exact congrArg (Value.int _) (by first | omega | (simp; done) | (simp; omega))), (hS.pick [0] rfl rfl), (by exact hmj)⟩
        · intro K hK
          refine ow_build hS Try.underlying29 tz_5 (bc_take (tmI rfl rfl) <| bc_take (tmI rfl rfl) <| bc_nil) rfl rfl (by kernel_rfl) ?_
          clear hS; intro g1_25 w hg1_25 hS
          refine hK _ _ ?_; clear hK K
          refine rg_step 19 rfl (by kernel_rfl) (want_0) (oks_drop hS 3 rfl) ?_; intro K hK
          refine ow_call Try.func33 rfl rfl (evs_cons (tmI rfl rfl) <| evs_cons (ev_cN 2) <| evs_nil) (rbytes_c port 2 _ (by omega) (by omega)) ?_
          rintro e w ⟨ga, rfl, hn3, hk⟩
          refine ⟨_, rfl, ?_⟩
          replace hS := hS.add hk hn3 -- +rowb
          clear hn3 hk
          refine hK _ _ ?_; clear hK K
          refine rg_step 28 rfl (by kernel_rfl) (want_0) (oks_drop hS 4 rfl) ?_; intro K hK
          refine ow_call Try.func34 rfl rfl (evs_cons (tmS rfl rfl) <| evs_nil) (rmembers_c L n c l _ (viewV hS.ok 5 rfl) hl hn64 hms) ?_
          rintro e w ⟨A5, m5, c5, rfl, hm5, hn5, hk⟩
          refine ⟨_, rfl, ?_⟩
          replace hS := hS.add hk hn5 -- +rowm
          clear hn5 hk
          have hlm : (n :: msE l).length = m5 := by rw [List.length_cons, msE_len]; omega
          refine hK _ _ ?_; clear hK K
          refine rg_step 29 rfl (by kernel_rfl) (want_0) (oks_drop hS 5 rfl) ?_; intro K hK
          refine ow_build hS Try.underlying77 tz_29 (bc_take (tmS rfl rfl) <| bc_take (tmS rfl rfl) <| bc_take (tmS rfl rfl) <| bc_take (tmS rfl rfl) <| bc_take (tmS rfl rfl) <| bc_nil) rfl rfl (by kernel_rfl) ?_
          clear hS; intro g1_29 w hg1_29 hS
          refine hK _ _ ?_; clear hK K
          refine rg_step 30 rfl (by kernel_rfl) (want_0) (oks_drop hS 6 rfl) ?_; intro K hK
          refine ow_call Try.func31 rfl rfl (evs_cons (tmS rfl rfl) <| evs_nil) (join_c 5 _ _ [(some ⟨g1_12, 0, none⟩, [kn, vp, bn, vn], 4), (A2, adE a, c2), (some ⟨ga, 0, none⟩, be port 2, 2), (some ⟨g1_25, 0, none⟩, [proto, wn], 2), (A5, n :: msE l, c5)] _ (by have h := viewB hS.ok 0 rfl; simp only [List.map_cons, List.map_nil, rowV, be_length, hlm, ← hm2]; exact h) (seen_cons (viewB hS.ok 5 rfl) <| seen_cons (viewR hS.ok 4 rfl) <| seen_cons (viewR hS.ok 2 rfl) <| seen_cons (viewB hS.ok 3 rfl) <| seen_cons (viewR hS.ok 1 rfl) seen_nil) rfl (by omega) (by show (joined [((none : Option Addr), [kn, vp, bn, vn], 4), (none, adE a, 0), (none, be port 2, 2), (none, [proto, wn], 2), (none, n :: msE l, 0)]).length ≤ _; rw [hJ]; omega)) ?_
          rintro e w ⟨Aj, mj, cj, hmj, rfl, hnj, hk⟩
          refine ⟨_, rfl, ?_⟩
          replace hS := hS.add hk hnj -- +row
          replace hS := hS.nm (M' := .row (.slice Aj mj cj) 5 1 mj (J.map u8v) :: _) (by rw [← hJ]; rfl)
          replace hmj : mj = J.length := by rw [hmj, ← hJ]; rfl
          clear hnj hk
          refine hK _ _ ?_; clear hK K
          refine rg_take 31 rfl rfl (by kernel_rfl) (by kernel_rfl) (by kernel_rfl) (want_0) (fun w hok => x_assign (tmS rfl rfl)) ?_
          refine rg_done (oks_drop hS 7 rfl) (by kernel_rfl) ?_
          exact then_n ⟨_, rfl, (by repeat (first | exact agree_self | exact agree_refl | refine agree_upd rfl ?_ | refine agree_mix rfl ?_)), _, _, _, (by first | rfl | go_num | exact congrArg (Value.int _) (by first | omega | (simp; done) | (simp; omega))), (hS.pick [0] rfl rfl), (by exact hmj)⟩
      · intro K hK
        refine ow_build hS Try.underlying29 tz_5 (bc_take (tmI rfl rfl) <| bc_take (tmI rfl rfl) <| bc_nil) rfl rfl (by kernel_rfl) ?_
        clear hS; intro g1_25 w hg1_25 hS
        refine hK _ _ ?_; clear hK K
        refine rg_step 15 rfl (by kernel_rfl) (want_0) (oks_drop hS 2 rfl) ?_; intro K hK
        refine ow_call Try.func32 rfl rfl (evs_cons (tmA rfl rfl) <| evs_nil) (rplace_c a _ hla) ?_
        rintro e w ⟨A2, m2, c2, rfl, hm2, hn2, hk⟩
        refine ⟨_, rfl, ?_⟩
        replace hS := hS.add hk hn2 -- +rowp
        clear hn2 hk
        refine hK _ _ ?_; clear hK K
        refine rg_step 19 rfl (by kernel_rfl) (want_0) (oks_drop hS 3 rfl) ?_; intro K hK
        refine ow_call Try.func33 rfl rfl (evs_cons (tmI rfl rfl) <| evs_cons (ev_cN 2) <| evs_nil) (rbytes_c port 2 _ (by omega) (by omega)) ?_
        rintro e w ⟨ga, rfl, hn3, hk⟩
        refine ⟨_, rfl, ?_⟩
        replace hS := hS.add hk hn3 -- +rowb
        clear hn3 hk
        refine hK _ _ ?_; clear hK K
        refine rg_step 28 rfl (by kernel_rfl) (want_0) (oks_drop hS 4 rfl) ?_; intro K hK
        refine ow_call Try.func34 rfl rfl (evs_cons (tmS rfl rfl) <| evs_nil) (rmembers_c L n c l _ (viewV hS.ok 5 rfl) hl hn64 hms) ?_
        rintro e w ⟨A5, m5, c5, rfl, hm5, hn5, hk⟩
        refine ⟨_, rfl, ?_⟩
        replace hS := hS.add hk hn5 -- +rowm
        clear hn5 hk
        have hlm : (n :: msE l).length = m5 := by rw [List.length_cons, msE_len]; omega
        refine hK _ _ ?_; clear hK K
        refine rg_step 29 rfl (by kernel_rfl) (want_0) (oks_drop hS 5 rfl) ?_; intro K hK
        refine ow_build hS Try.underlying77 tz_29 (bc_take (tmS rfl rfl) <| bc_take (tmS rfl rfl) <| bc_take (tmS rfl rfl) <| bc_take (tmS rfl rfl) <| bc_take (tmS rfl rfl) <| bc_nil) rfl rfl (by kernel_rfl) ?_
        clear hS; intro g1_29 w hg1_29 hS
        refine hK _ _ ?_; clear hK K
        refine rg_step 30 rfl (by kernel_rfl) (want_0) (oks_drop hS 6 rfl) ?_; intro K hK
        refine ow_call Try.func31 rfl rfl (evs_cons (tmS rfl rfl) <| evs_nil) (join_c 5 _ _ [(some ⟨g1_12, 0, none⟩, [kn, vp, bn, vn], 4), (A2, adE a, c2), (some ⟨ga, 0, none⟩, be port 2, 2), (some ⟨g1_25, 0, none⟩, [proto, wn], 2), (A5, n :: msE l, c5)] _ (by have h := viewB hS.ok 0 rfl; simp only [List.map_cons, List.map_nil, rowV, be_length, hlm, ← hm2]; exact h) (seen_cons (viewB hS.ok 5 rfl) <| seen_cons (viewR hS.ok 3 rfl) <| seen_cons (viewR hS.ok 2 rfl) <| seen_cons (viewB hS.ok 4 rfl) <| seen_cons (viewR hS.ok 1 rfl) seen_nil) rfl (by omega) (by show (joined [((none : Option Addr), [kn, vp, bn, vn], 4), (none, adE a, 0), (none, be port 2, 2), (none, [proto, wn], 2), (none, n :: msE l, 0)]).length ≤ _; rw [hJ]; omega)) ?_
        rintro e w ⟨Aj, mj, cj, hmj, rfl, hnj, hk⟩
        refine ⟨_, rfl, ?_⟩
        replace hS := hS.add hk hnj -- +row
        replace hS := hS.nm (M' := .row (.slice Aj mj cj) 5 1 mj (J.map u8v) :: _) (by rw [← hJ]; rfl)
        replace hmj : mj = J.length := by rw [hmj, ← hJ]; rfl
        clear hnj hk
        refine hK _ _ ?_; clear hK K
        refine rg_take 31 rfl rfl (by kernel_rfl) (by kernel_rfl) (by kernel_rfl) (want_0) (fun w hok => x_assign (tmS rfl rfl)) ?_
        refine rg_done (oks_drop hS 7 rfl) (by kernel_rfl) ?_
        exact then_n ⟨_, rfl, (by repeat (first | exact agree_self | exact agree_refl | refine agree_upd rfl ?_ | refine agree_mix rfl ?_)), _, _, _, (by first | rfl | go_num | exact congrArg (Value.int _) (by first | omega | (simp; done) | (simp; omega))), (hS.pick [0] rfl rfl), (by exact hmj)⟩
    · intro K hK
      refine ow_call Try.func32 rfl rfl (evs_cons (tmA rfl rfl) <| evs_nil) (rplace_c a _ hla) ?_
      rintro e w ⟨A2, m2, c2, rfl, hm2, hn2, hk⟩
      refine ⟨_, rfl, ?_⟩
      replace hS := hS.add hk hn2 -- +rowp
      clear hn2 hk
      refine hK _ _ ?_; clear hK K
      refine rg_step3 12 19 25 rfl rfl rfl (by kernel_rfl) (want_0) (want_0) (want_0) (oks_drop hS 1 rfl) ?_ ?_ ?_
      · intro K hK
        refine ow_build hS Try.underlying29 tz_5 (bc_take (tmI rfl rfl) <| bc_take (tmI rfl rfl) <| bc_take (tmI rfl rfl) <| bc_take (tmI rfl rfl) <| bc_nil) rfl rfl (by kernel_rfl) ?_
        clear hS; intro g1_12 w hg1_12 hS
        refine hK _ _ ?_; clear hK K
        refine rg_step2 19 25 rfl rfl (by kernel_rfl) (want_0) (want_0) (oks_drop hS 2 rfl) ?_ ?_
        · intro K hK
          refine ow_call Try.func33 rfl rfl (evs_cons (tmI rfl rfl) <| evs_cons (ev_cN 2) <| evs_nil) (rbytes_c port 2 _ (by omega) (by omega)) ?_
          rintro e w ⟨ga, rfl, hn3, hk⟩
          refine ⟨_, rfl, ?_⟩
          replace hS := hS.add hk hn3 -- +rowb
          clear hn3 hk
          refine hK _ _ ?_; clear hK K
          refine rg_step2 25 28 rfl rfl (by kernel_rfl) (want_0) (want_0) (oks_drop hS 3 rfl) ?_ ?_
          · intro K hK
            refine ow_build hS Try.underlying29 tz_5 (bc_take (tmI rfl rfl) <| bc_take (tmI rfl rfl) <| bc_nil) rfl rfl (by kernel_rfl) ?_
            clear hS; intro g1_25 w hg1_25 hS
            refine hK _ _ ?_; clear hK K
            refine rg_step 28 rfl (by kernel_rfl) (want_0) (oks_drop hS 4 rfl) ?_; intro K hK
            refine ow_call Try.func34 rfl rfl (evs_cons (tmS rfl rfl) <| evs_nil) (rmembers_c L n c l _ (viewV hS.ok 5 rfl) hl hn64 hms) ?_
            rintro e w ⟨A5, m5, c5, rfl, hm5, hn5, hk⟩
            refine ⟨_, rfl, ?_⟩
            replace hS := hS.add hk hn5 -- +rowm
            clear hn5 hk
            have hlm : (n :: msE l).length = m5 := by rw [List.length_cons, msE_len]; omega
            refine hK _ _ ?_; clear hK K
            refine rg_step 29 rfl (by kernel_rfl) (want_0) (oks_drop hS 5 rfl) ?_; intro K hK
            refine ow_build hS Try.underlying77 tz_29 (bc_take (tmS rfl rfl) <| bc_take (tmS rfl rfl) <| bc_take (tmS rfl rfl) <| bc_take (tmS rfl rfl) <| bc_take (tmS rfl rfl) <| bc_nil) rfl rfl (by kernel_rfl) ?_
            clear hS; intro g1_29 w hg1_29 hS
            refine hK _ _ ?_; clear hK K
            refine rg_step 30 rfl (by kernel_rfl) (want_0) (oks_drop hS 6 rfl) ?_; intro K hK
            refine ow_call Try.func31 rfl rfl (evs_cons (tmS rfl rfl) <| evs_nil) (join_c 5 _ _ [(some ⟨g1_12, 0, none⟩, [kn, vp, bn, vn], 4), (A2, adE a, c2), (some ⟨ga, 0, none⟩, be port 2, 2), (some ⟨g1_25, 0, none⟩, [proto, wn], 2), (A5, n :: msE l, c5)] _ (by have h := viewB hS.ok 0 rfl; simp only [List.map_cons, List.map_nil, rowV, be_length, hlm, ← hm2]; exact h) (seen_cons (viewB hS.ok 4 rfl) <| seen_cons (viewR hS.ok 5 rfl) <| seen_cons (viewR hS.ok 3 rfl) <| seen_cons (viewB hS.ok 2 rfl) <| seen_cons (viewR hS.ok 1 rfl) seen_nil) rfl (by omega) (by show (joined [((none : Option Addr), [kn, vp, bn, vn], 4), (none, adE a, 0), (none, be port 2, 2), (none, [proto, wn], 2), (none, n :: msE l, 0)]).length ≤ _; rw [hJ]; omega)) ?_
            rintro e w ⟨Aj, mj, cj, hmj, rfl, hnj, hk⟩
            refine ⟨_, rfl, ?_⟩
            replace hS := hS.add hk hnj -- +row
            replace hS := hS.nm (M' := .row (.slice Aj mj cj) 5 1 mj (J.map u8v) :: _) (by rw [← hJ]; rfl)
            replace hmj : mj = J.length := by rw [hmj, ← hJ]; rfl
            clear hnj hk
            refine hK _ _ ?_; clear hK K
            refine rg_take 31 rfl rfl (by kernel_rfl) (by kernel_rfl) (by kernel_rfl) (want_0) (fun w hok => x_assign (tmS rfl rfl)) ?_
            refine rg_done (oks_drop hS 7 rfl) (by kernel_rfl) ?_
            exact then_n ⟨_, rfl, (by repeat (first | exact agree_self | exact agree_refl | refine agree_upd rfl ?_ | refine agree_mix rfl ?_)), _, _, _, (by first | rfl | go_num | exact congrArg (Value.int _) (by first | omega | (simp; done) | (simp; omega))), (hS.pick [0] rfl rfl), (by exact hmj)⟩
          · intro K hK
            refine ow_call Try.func34 rfl rfl (evs_cons (tmS rfl rfl) <| evs_nil) (rmembers_c L n c l _ (viewV hS.ok 4 rfl) hl hn64 hms) ?_
            rintro e w ⟨A5, m5, c5, rfl, hm5, hn5, hk⟩
            refine ⟨_, rfl, ?_⟩
            replace hS := hS.add hk hn5 -- +rowm
            clear hn5 hk
            have hlm : (n :: msE l).length = m5 := by rw [List.length_cons, msE_len]; omega
            refine hK _ _ ?_; clear hK K
            refine rg_step 25 rfl (by kernel_rfl) (want_0) (oks_drop hS 4 rfl) ?_; intro K hK
            refine ow_build hS Try.underlying29 tz_5 (bc_take (tmI rfl rfl) <| bc_take (tmI rfl rfl) <| bc_nil) rfl rfl (by kernel_rfl) ?_
            clear hS; intro g1_25 w hg1_25 hS
            refine hK _ _ ?_; clear hK K
            refine rg_step 29 rfl (by kernel_rfl) (want_0) (oks_drop hS 5 rfl) ?_; intro K hK
            refine ow_build hS Try.underlying77 tz_29 (bc_take (tmS rfl rfl) <| bc_take (tmS rfl rfl) <| bc_take (tmS rfl rfl) <| bc_take (tmS rfl rfl) <| bc_take (tmS rfl rfl) <| bc_nil) rfl rfl (by kernel_rfl) ?_
            clear hS; intro g1_29 w hg1_29 hS
            refine hK _ _ ?_; clear hK K
            refine rg_step 30 rfl (by kernel_rfl) (want_0) (oks_drop hS 6 rfl) ?_; intro K hK
            refine ow_call Try.func31 rfl rfl (evs_cons (tmS rfl rfl) <| evs_nil) (join_c 5 _ _ [(some ⟨g1_12, 0, none⟩, [kn, vp, bn, vn], 4), (A2, adE a, c2), (some ⟨ga, 0, none⟩, be port 2, 2), (some ⟨g1_25, 0, none⟩, [proto, wn], 2), (A5, n :: msE l, c5)] _ (by have h := viewB hS.ok 0 rfl; simp only [List.map_cons, List.map_nil, rowV, be_length, hlm, ← hm2]; exact h) (seen_cons (viewB hS.ok 4 rfl) <| seen_cons (viewR hS.ok 5 rfl) <| seen_cons (viewR hS.ok 3 rfl) <| seen_cons (viewB hS.ok 1 rfl) <| seen_cons (viewR hS.ok 2 rfl) seen_nil) rfl (by omega) (by show (joined [((none : Option Addr), [kn, vp, bn, vn], 4), (none, adE a, 0), (none, be port 2, 2), (none, [proto, wn], 2), (none, n :: msE l, 0)]).length ≤ _; rw [hJ]; omega)) ?_
            rintro e w ⟨Aj, mj, cj, hmj, rfl, hnj, hk⟩
            refine ⟨_, rfl, ?_⟩
            replace hS := hS.add hk hnj -- +row
            replace hS := hS.nm (M' := .row (.slice Aj mj cj) 5 1 mj (J.map u8v) :: _) (by rw [← hJ]; rfl)
            replace hmj : mj = J.length := by rw [hmj, ← hJ]; rfl
            clear hnj hk
            refine hK _ _ ?_; clear hK K
            refine rg_take 31 rfl rfl (by kernel_rfl) (by kernel_rfl) (by kernel_rfl) (want_0) (fun w hok => x_assign (tmS rfl rfl)) ?_
            refine rg_done (oks_drop hS 7 rfl) (by kernel_rfl) ?_
            exact then_n ⟨_, rfl, (by repeat (first | exact agree_self | exact agree_refl | refine agree_upd rfl ?_ | refine agree_mix rfl ?_)), _, _, _, (by first | rfl | go_num | exact congrArg (Value.int _) (by first | omega | (simp; done) | (simp; omega))), (hS.pick [0] rfl rfl), (by exact hmj)⟩
        · intro K hK
          refine ow_build hS Try.underlying29 tz_5 (bc_take (tmI rfl rfl) <| bc_take (tmI rfl rfl) <| bc_nil) rfl rfl (by kernel_rfl) ?_
          clear hS; intro g1_25 w hg1_25 hS
          refine hK _ _ ?_; clear hK K
          refine rg_step 19 rfl (by kernel_rfl) (want_0) (oks_drop hS 3 rfl) ?_; intro K hK
          refine ow_call Try.func33 rfl rfl (evs_cons (tmI rfl rfl) <| evs_cons (ev_cN 2) <| evs_nil) (rbytes_c port 2 _ (by omega) (by omega)) ?_
          rintro e w ⟨ga, rfl, hn3, hk⟩
          refine ⟨_, rfl, ?_⟩
          replace hS := hS.add hk hn3 -- +rowb
          clear hn3 hk
          refine hK _ _ ?_; clear hK K
          refine rg_step 28 rfl (by kernel_rfl) (want_0) (oks_drop hS 4 rfl) ?_; intro K hK
          refine ow_call Try.func34 rfl rfl (evs_cons (tmS rfl rfl) <| evs_nil) (rmembers_c L n c l _ (viewV hS.ok 5 rfl) hl hn64 hms) ?_
          rintro e w ⟨A5, m5, c5, rfl, hm5, hn5, hk⟩
          refine ⟨_, rfl, ?_⟩
          replace hS := hS.add hk hn5 -- +rowm
          clear hn5 hk
          have hlm : (n :: msE l).length = m5 := by rw [List.length_cons, msE_len]; omega
          refine hK _ _ ?_; clear hK K
          refine rg_step 29 rfl (by kernel_rfl) (want_0) (oks_drop hS 5 rfl) ?_; intro K hK
          refine ow_build hS Try.underlying77 tz_29 (bc_take (tmS rfl rfl) <| bc_take (tmS rfl rfl) <| bc_take (tmS rfl rfl) <| bc_take (tmS rfl rfl) <| bc_take (tmS rfl rfl) <| bc_nil) rfl rfl (by kernel_rfl) ?_
          clear hS; intro g1_29 w hg1_29 hS
          refine hK _ _ ?_; clear hK K
          refine rg_step 30 rfl (by kernel_rfl) (want_0) (oks_drop hS 6 rfl) ?_; intro K hK
          refine ow_call Try.func31 rfl rfl (evs_cons (tmS rfl rfl) <| evs_nil) (join_c 5 _ _ [(some ⟨g1_12, 0, none⟩, [kn, vp, bn, vn], 4), (A2, adE a, c2), (some ⟨ga, 0, none⟩, be port 2, 2), (some ⟨g1_25, 0, none⟩, [proto, wn], 2), (A5, n :: msE l, c5)] _ (by have h := viewB hS.ok 0 rfl; simp only [List.map_cons, List.map_nil, rowV, be_length, hlm, ← hm2]; exact h) (seen_cons (viewB hS.ok 4 rfl) <| seen_cons (viewR hS.ok 5 rfl) <| seen_cons (viewR hS.ok 2 rfl) <| seen_cons (viewB hS.ok 3 rfl) <| seen_cons (viewR hS.ok 1 rfl) seen_nil) rfl (by omega) (by show (joined [((none : Option Addr), [kn, vp, bn, vn], 4), (none, adE a, 0), (none, be port 2, 2), (none, [proto, wn], 2), (none, n :: msE l, 0)]).length ≤ _; rw [hJ]; omega)) ?_
          rintro e w ⟨Aj, mj, cj, hmj, rfl, hnj, hk⟩
          refine ⟨_, rfl, ?_⟩
          replace hS := hS.add hk hnj -- +row
          replace hS := hS.nm (M' := .row (.slice Aj mj cj) 5 1 mj (J.map u8v) :: _) (by rw [← hJ]; rfl)
          replace hmj : mj = J.length := by rw [hmj, ← hJ]; rfl
          clear hnj hk
          refine hK _ _ ?_; clear hK K
          refine rg_take 31 rfl rfl (by kernel_rfl) (by kernel_rfl) (by kernel_rfl) (want_0) (fun w hok => x_assign (tmS rfl rfl)) ?_
          refine rg_done (oks_drop hS 7 rfl) (by kernel_rfl) ?_
          exact then_n ⟨_, rfl, (by repeat (first | exact agree_self | exact agree_refl | refine agree_upd rfl ?_ | refine agree_mix rfl ?_)), _, _, _, (by first | rfl | go_num | exact congrArg (Value.int _) (by first | omega | (simp; done) | (simp; omega))), (hS.pick [0] rfl rfl), (by exact hmj)⟩
      · intro K hK
        refine ow_call Try.func33 rfl rfl (evs_cons (tmI rfl rfl) <| evs_cons (ev_cN 2) <| evs_nil) (rbytes_c port 2 _ (by omega) (by omega)) ?_
        rintro e w ⟨ga, rfl, hn3, hk⟩
        refine ⟨_, rfl, ?_⟩
        replace hS := hS.add hk hn3 -- +rowb
        clear hn3 hk
        refine hK _ _ ?_; clear hK K
        refine rg_step3 12 25 28 rfl rfl rfl (by kernel_rfl) (want_0) (want_0) (want_0) (oks_drop hS 2 rfl) ?_ ?_ ?_
        · intro K hK
          refine ow_build hS Try.underlying29 tz_5 (bc_take (tmI rfl rfl) <| bc_take (tmI rfl rfl) <| bc_take (tmI rfl rfl) <| bc_take (tmI rfl rfl) <| bc_nil) rfl rfl (by kernel_rfl) ?_
          clear hS; intro g1_12 w hg1_12 hS
          refine hK _ _ ?_; clear hK K
          refine rg_step2 25 28 rfl rfl (by kernel_rfl) (want_0) (want_0) (oks_drop hS 3 rfl) ?_ ?_
          · intro K hK
            refine ow_build hS Try.underlying29 tz_5 (bc_take (tmI rfl rfl) <| bc_take (tmI rfl rfl) <| bc_nil) rfl rfl (by kernel_rfl) ?_
            clear hS; intro g1_25 w hg1_25 hS
            refine hK _ _ ?_; clear hK K
            refine rg_step 28 rfl (by kernel_rfl) (want_0) (oks_drop hS 4 rfl) ?_; intro K hK
            refine ow_call Try.func34 rfl rfl (evs_cons (tmS rfl rfl) <| evs_nil) (rmembers_c L n c l _ (viewV hS.ok 5 rfl) hl hn64 hms) ?_
            rintro e w ⟨A5, m5, c5, rfl, hm5, hn5, hk⟩
            refine ⟨_, rfl, ?_⟩
            replace hS := hS.add hk hn5 -- +rowm
            clear hn5 hk
            have hlm : (n :: msE l).length = m5 := by rw [List.length_cons, msE_len]; omega
            refine hK _ _ ?_; clear hK K
            refine rg_step 29 rfl (by kernel_rfl) (want_0) (oks_drop hS 5 rfl) ?_; intro K hK
            refine ow_build hS Try.underlying77 tz_29 (bc_take (tmS rfl rfl) <| bc_take (tmS rfl rfl) <| bc_take (tmS rfl rfl) <| bc_take (tmS rfl rfl) <| bc_take (tmS rfl rfl) <| bc_nil) rfl rfl (by kernel_rfl) ?_
            clear hS; intro g1_29 w hg1_29 hS
            refine hK _ _ ?_; clear hK K
            refine rg_step 30 rfl (by kernel_rfl) (want_0) (oks_drop hS 6 rfl) ?_; intro K hK
            refine ow_call Try.func31 rfl rfl (evs_cons (tmS rfl rfl) <| evs_nil) (join_c 5 _ _ [(some ⟨g1_12, 0, none⟩, [kn, vp, bn, vn], 4), (A2, adE a, c2), (some ⟨ga, 0, none⟩, be port 2, 2), (some ⟨g1_25, 0, none⟩, [proto, wn], 2), (A5, n :: msE l, c5)] _ (by have h := viewB hS.ok 0 rfl; simp only [List.map_cons, List.map_nil, rowV, be_length, hlm, ← hm2]; exact h) (seen_cons (viewB hS.ok 3 rfl) <| seen_cons (viewR hS.ok 5 rfl) <| seen_cons (viewR hS.ok 4 rfl) <| seen_cons (viewB hS.ok 2 rfl) <| seen_cons (viewR hS.ok 1 rfl) seen_nil) rfl (by omega) (by show (joined [((none : Option Addr), [kn, vp, bn, vn], 4), (none, adE a, 0), (none, be port 2, 2), (none, [proto, wn], 2), (none, n :: msE l, 0)]).length ≤ _; rw [hJ]; omega)) ?_
            rintro e w ⟨Aj, mj, cj, hmj, rfl, hnj, hk⟩
            refine ⟨_, rfl, ?_⟩
            replace hS := hS.add hk hnj -- +row
            replace hS := hS.nm (M' := .row (.slice Aj mj cj) 5 1 mj (J.map u8v) :: _) (by rw [← hJ]; rfl)
            replace hmj : mj = J.length := by rw [hmj, ← hJ]; rfl
            clear hnj hk
            refine hK _ _ ?_; clear hK K
            refine rg_take 31 rfl rfl (by kernel_rfl) (by kernel_rfl) (by kernel_rfl) (want_0) (fun w hok => x_assign (tmS rfl rfl)) ?_
            refine rg_done (oks_drop hS 7 rfl) (by kernel_rfl) ?_
            exact then_n ⟨_, rfl, (by repeat (first | exact agree_self | exact agree_refl | refine agree_upd rfl ?_ | refine agree_mix rfl ?_)), _, _, _, (by first | rfl | go_num | exact congrArg (Value.int _) (by first | omega | (simp; done) | (simp; omega))), (hS.pick [0] rfl rfl), (by exact hmj)⟩
          · intro K hK
            refine ow_call Try.func34 rfl rfl (evs_cons (tmS rfl rfl) <| evs_nil) (rmembers_c L n c l _ (viewV hS.ok 4 rfl) hl hn64 hms) ?_
            rintro e w ⟨A5, m5, c5, rfl, hm5, hn5, hk⟩
            refine ⟨_, rfl, ?_⟩
            replace hS := hS.add hk hn5 -- +rowm
            clear hn5 hk
            have hlm : (n :: msE l).length = m5 := by rw [List.length_cons, msE_len]; omega
            refine hK _ _ ?_; clear hK K
            refine rg_step 25 rfl (by kernel_rfl) (want_0) (oks_drop hS 4 rfl) ?_; intro K hK
            refine ow_build hS Try.underlying29 tz_5 (bc_take (tmI rfl rfl) <| bc_take (tmI rfl rfl) <| bc_nil) rfl rfl (by kernel_rfl) ?_
            clear hS; intro g1_25 w hg1_25 hS
            refine hK _ _ ?_; clear hK K
            refine rg_step 29 rfl (by kernel_rfl) (want_0) (oks_drop hS 5 rfl) ?_; intro K hK
            refine ow_build hS Try.underlying77 tz_29 (bc_take (tmS rfl rfl) <| bc_take (tmS rfl rfl) <| bc_take (tmS rfl rfl) <| bc_take (tmS rfl rfl) <| bc_take (tmS rfl rfl) <| bc_nil) rfl rfl (by kernel_rfl) ?_
            clear hS; intro g1_29 w hg1_29 hS
            refine hK _ _ ?_; clear hK K
            refine rg_step 30 rfl (by kernel_rfl) (want_0) (oks_drop hS 6 rfl) ?_; intro K hK
            refine ow_call Try.func31 rfl rfl (evs_cons (tmS rfl rfl) <| evs_nil) (join_c 5 _ _ [(some ⟨g1_12, 0, none⟩, [kn, vp, bn, vn], 4), (A2, adE a, c2), (some ⟨ga, 0, none⟩, be port 2, 2), (some ⟨g1_25, 0, none⟩, [proto, wn], 2), (A5, n :: msE l, c5)] _ (by have h := viewB hS.ok 0 rfl; simp only [List.map_cons, List.map_nil, rowV, be_length, hlm, ← hm2]; exact h) (seen_cons (viewB hS.ok 3 rfl) <| seen_cons (viewR hS.ok 5 rfl) <| seen_cons (viewR hS.ok 4 rfl) <| seen_cons (viewB hS.ok 1 rfl) <| seen_cons (viewR hS.ok 2 rfl) seen_nil) rfl (by omega) (by show (joined [((none : Option Addr), [kn, vp, bn, vn], 4), (none, adE a, 0), (none, be port 2, 2), (none, [proto, wn], 2), (none, n :: msE l, 0)]).length ≤ _; rw [hJ]; omega)) ?_
            rintro e w ⟨Aj, mj, cj, hmj, rfl, hnj, hk⟩
            refine ⟨_, rfl, ?_⟩
            replace hS := hS.add hk hnj -- +row
            replace hS := hS.nm (M' := .row (.slice Aj mj cj) 5 1 mj (J.map u8v) :: _) (by rw [← hJ]; rfl)
            replace hmj : mj = J.length := by rw [hmj, ← hJ]; rfl
            clear hnj hk
            refine hK _ _ ?_; clear hK K
            refine rg_take 31 rfl rfl (by kernel_rfl) (by kernel_rfl) (by kernel_rfl) (want_0) (fun w hok => x_assign (tmS rfl rfl)) ?_
            refine rg_done (oks_drop hS 7 rfl) (by kernel_rfl) ?_
            exact then_n ⟨_, rfl, (by repeat (first | exact agree_self | exact agree_refl | refine agree_upd rfl ?_ | refine agree_mix rfl ?_)), _, _, _, (by first | rfl | go_num | exact congrArg (Value.int _) (by first | omega | (simp; done) | (simp; omega))), (hS.pick [0] rfl rfl), (by exact hmj)⟩
        · intro K hK
          refine ow_build hS Try.underlying29 tz_5 (bc_take (tmI rfl rfl) <| bc_take (tmI rfl rfl) <| bc_nil) rfl rfl (by kernel_rfl) ?_
          clear hS; intro g1_25 w hg1_25 hS
          refine hK _ _ ?_; clear hK K
          refine rg_step2 12 28 rfl rfl (by kernel_rfl) (want_0) (want_0) (oks_drop hS 3 rfl) ?_ ?_
          · intro K hK
            refine ow_build hS Try.underlying29 tz_5 (bc_take (tmI rfl rfl) <| bc_take (tmI rfl rfl) <| bc_take (tmI rfl rfl) <| bc_take (tmI rfl rfl) <| bc_nil) rfl rfl (by kernel_rfl) ?_
            clear hS; intro g1_12 w hg1_12 hS
            refine hK _ _ ?_; clear hK K
            refine rg_step 28 rfl (by kernel_rfl) (want_0) (oks_drop hS 4 rfl) ?_; intro K hK
            refine ow_call Try.func34 rfl rfl (evs_cons (tmS rfl rfl) <| evs_nil) (rmembers_c L n c l _ (viewV hS.ok 5 rfl) hl hn64 hms) ?_
            rintro e w ⟨A5, m5, c5, rfl, hm5, hn5, hk⟩
            refine ⟨_, rfl, ?_⟩
            replace hS := hS.add hk hn5 -- +rowm
            clear hn5 hk
            have hlm : (n :: msE l).length = m5 := by rw [List.length_cons, msE_len]; omega
            refine hK _ _ ?_; clear hK K
            refine rg_step 29 rfl (by kernel_rfl) (want_0) (oks_drop hS 5 rfl) ?_; intro K hK
            refine ow_build hS Try.underlying77 tz_29 (bc_take (tmS rfl rfl) <| bc_take (tmS rfl rfl) <| bc_take (tmS rfl rfl) <| bc_take (tmS rfl rfl) <| bc_take (tmS rfl rfl) <| bc_nil) rfl rfl (by kernel_rfl) ?_
            clear hS; intro g1_29 w hg1_29 hS
            refine hK _ _ ?_; clear hK K
            refine rg_step 30 rfl (by kernel_rfl) (want_0) (oks_drop hS 6 rfl) ?_; intro K hK
            refine ow_call Try.func31 rfl rfl (evs_cons (tmS rfl rfl) <| evs_nil) (join_c 5 _ _ [(some ⟨g1_12, 0, none⟩, [kn, vp, bn, vn], 4), (A2, adE a, c2), (some ⟨ga, 0, none⟩, be port 2, 2), (some ⟨g1_25, 0, none⟩, [proto, wn], 2), (A5, n :: msE l, c5)] _ (by have h := viewB hS.ok 0 rfl; simp only [List.map_cons, List.map_nil, rowV, be_length, hlm, ← hm2]; exact h) (seen_cons (viewB hS.ok 2 rfl) <| seen_cons (viewR hS.ok 5 rfl) <| seen_cons (viewR hS.ok 4 rfl) <| seen_cons (viewB hS.ok 3 rfl) <| seen_cons (viewR hS.ok 1 rfl) seen_nil) rfl (by omega) (by show (joined [((none : Option Addr), [kn, vp, bn, vn], 4), (none, adE a, 0), (none, be port 2, 2), (none, [proto, wn], 2), (none, n :: msE l, 0)]).length ≤ _; rw [hJ]; omega)) ?_
            rintro e w ⟨Aj, mj, cj, hmj, rfl, hnj, hk⟩
            refine ⟨_, rfl, ?_⟩
            replace hS := hS.add hk hnj -- +row
            replace hS := hS.nm (M' := .row (.slice Aj mj cj) 5 1 mj (J.map u8v) :: _) (by rw [← hJ]; rfl)
            replace hmj : mj = J.length := by rw [hmj, ← hJ]; rfl
            clear hnj hk
            refine hK _ _ ?_; clear hK K
            refine rg_take 31 rfl rfl (by kernel_rfl) (by kernel_rfl) (by kernel_rfl) (want_0) (fun w hok => x_assign (tmS rfl rfl)) ?_
            refine rg_done (oks_drop hS 7 rfl) (by kernel_rfl) ?_
            exact then_n ⟨_, rfl, (by repeat (first | exact agree_self | exact agree_refl | refine agree_upd rfl ?_ | refine agree_mix rfl ?_)), _, _, _, (by first | rfl | go_num | exact congrArg (Value.int _) (by first | omega | (simp; done) | (simp; omega))), (hS.pick [0] rfl rfl), (by exact hmj)⟩
          · intro K hK
            refine ow_call Try.func34 rfl rfl (evs_cons (tmS rfl rfl) <| evs_nil) (rmembers_c L n c l _ (viewV hS.ok 4 rfl) hl hn64 hms) ?_
            rintro e w ⟨A5, m5, c5, rfl, hm5, hn5, hk⟩
            refine ⟨_, rfl, ?_⟩
            replace hS := hS.add hk hn5 -- +rowm
            clear hn5 hk
            have hlm : (n :: msE l).length = m5 := by rw [List.length_cons, msE_len]; omega
            refine hK _ _ ?_; clear hK K
            refine rg_step 12 rfl (by kernel_rfl) (want_0) (oks_drop hS 4 rfl) ?_; intro K hK
            refine ow_build hS Try.underlying29 tz_5 (bc_take (tmI rfl rfl) <| bc_take (tmI rfl rfl) <| bc_take (tmI rfl rfl) <| bc_take (tmI rfl rfl) <| bc_nil) rfl rfl (by kernel_rfl) ?_
            clear hS; intro g1_12 w hg1_12 hS
            refine hK _ _ ?_; clear hK K
            refine rg_step 29 rfl (by kernel_rfl) (want_0) (oks_drop hS 5 rfl) ?_; intro K hK
            refine ow_build hS Try.underlying77 tz_29 (bc_take (tmS rfl rfl) <| bc_take (tmS rfl rfl) <| bc_take (tmS rfl rfl) <| bc_take (tmS rfl rfl) <| bc_take (tmS rfl rfl) <| bc_nil) rfl rfl (by kernel_rfl) ?_
            clear hS; intro g1_29 w hg1_29 hS
            refine hK _ _ ?_; clear hK K
            refine rg_step 30 rfl (by kernel_rfl) (want_0) (oks_drop hS 6 rfl) ?_; intro K hK
            refine ow_call Try.func31 rfl rfl (evs_cons (tmS rfl rfl) <| evs_nil) (join_c 5 _ _ [(some ⟨g1_12, 0, none⟩, [kn, vp, bn, vn], 4), (A2, adE a, c2), (some ⟨ga, 0, none⟩, be port 2, 2), (some ⟨g1_25, 0, none⟩, [proto, wn], 2), (A5, n :: msE l, c5)] _ (by have h := viewB hS.ok 0 rfl; simp only [List.map_cons, List.map_nil, rowV, be_length, hlm, ← hm2]; exact h) (seen_cons (viewB hS.ok 1 rfl) <| seen_cons (viewR hS.ok 5 rfl) <| seen_cons (viewR hS.ok 4 rfl) <| seen_cons (viewB hS.ok 3 rfl) <| seen_cons (viewR hS.ok 2 rfl) seen_nil) rfl (by omega) (by show (joined [((none : Option Addr), [kn, vp, bn, vn], 4), (none, adE a, 0), (none, be port 2, 2), (none, [proto, wn], 2), (none, n :: msE l, 0)]).length ≤ _; rw [hJ]; omega)) ?_
            rintro e w ⟨Aj, mj, cj, hmj, rfl, hnj, hk⟩
            refine ⟨_, rfl, ?_⟩
            replace hS := hS.add hk hnj -- +row
            replace hS := hS.nm (M' := .row (.slice Aj mj cj) 5 1 mj (J.map u8v) :: _) (by rw [← hJ]; rfl)
            replace hmj : mj = J.length := by rw [hmj, ← hJ]; rfl
            clear hnj hk
            refine hK _ _ ?_; clear hK K
            refine rg_take 31 rfl rfl (by kernel_rfl) (by kernel_rfl) (by kernel_rfl) (want_0) (fun w hok => x_assign (tmS rfl rfl)) ?_
            refine rg_done (oks_drop hS 7 rfl) (by kernel_rfl) ?_
            exact then_n ⟨_, rfl, (by repeat (first | exact agree_self | exact agree_refl | refine agree_upd rfl ?_ | refine agree_mix rfl ?_)), _, _, _, (by first | rfl | go_num | exact congrArg (Value.int _) (by first | omega | (simp; done) | (simp; omega))), (hS.pick [0] rfl rfl), (by exact hmj)⟩
        · intro K hK
          refine ow_call Try.func34 rfl rfl (evs_cons (tmS rfl rfl) <| evs_nil) (rmembers_c L n c l _ (viewV hS.ok 3 rfl) hl hn64 hms) ?_
          rintro e w ⟨A5, m5, c5, rfl, hm5, hn5, hk⟩
          refine ⟨_, rfl, ?_⟩
          replace hS := hS.add hk hn5 -- +rowm
          clear hn5 hk
          have hlm : (n :: msE l).length = m5 := by rw [List.length_cons, msE_len]; omega
          refine hK _ _ ?_; clear hK K
          refine rg_step2 12 25 rfl rfl (by kernel_rfl) (want_0) (want_0) (oks_drop hS 3 rfl) ?_ ?_
          · intro K hK
            refine ow_build hS Try.underlying29 tz_5 (bc_take (tmI rfl rfl) <| bc_take (tmI rfl rfl) <| bc_take (tmI rfl rfl) <| bc_take (tmI rfl rfl) <| bc_nil) rfl rfl (by kernel_rfl) ?_
            clear hS; intro g1_12 w hg1_12 hS
            refine hK _ _ ?_; clear hK K
            refine rg_step 25 rfl (by kernel_rfl) (want_0) (oks_drop hS 4 rfl) ?_; intro K hK
            refine ow_build hS Try.underlying29 tz_5 (bc_take (tmI rfl rfl) <| bc_take (tmI rfl rfl) <| bc_nil) rfl rfl (by kernel_rfl) ?_
            clear hS; intro g1_25 w hg1_25 hS
            refine hK _ _ ?_; clear hK K
            refine rg_step 29 rfl (by kernel_rfl) (want_0) (oks_drop hS 5 rfl) ?_; intro K hK
            refine ow_build hS Try.underlying77 tz_29 (bc_take (tmS rfl rfl) <| bc_take (tmS rfl rfl) <| bc_take (tmS rfl rfl) <| bc_take (tmS rfl rfl) <| bc_take (tmS rfl rfl) <| bc_nil) rfl rfl (by kernel_rfl) ?_
            clear hS; intro g1_29 w hg1_29 hS
            refine hK _ _ ?_; clear hK K
            refine rg_step 30 rfl (by kernel_rfl) (want_0) (oks_drop hS 6 rfl) ?_; intro K hK
            refine ow_call Try.func31 rfl rfl (evs_cons (tmS rfl rfl) <| evs_nil) (join_c 5 _ _ [(some ⟨g1_12, 0, none⟩, [kn, vp, bn, vn], 4), (A2, adE a, c2), (some ⟨ga, 0, none⟩, be port 2, 2), (some ⟨g1_25, 0, none⟩, [proto, wn], 2), (A5, n :: msE l, c5)] _ (by have h := viewB hS.ok 0 rfl; simp only [List.map_cons, List.map_nil, rowV, be_length, hlm, ← hm2]; exact h) (seen_cons (viewB hS.ok 2 rfl) <| seen_cons (viewR hS.ok 5 rfl) <| seen_cons (viewR hS.ok 4 rfl) <| seen_cons (viewB hS.ok 1 rfl) <| seen_cons (viewR hS.ok 3 rfl) seen_nil) rfl (by omega) (by show (joined [((none : Option Addr), [kn, vp, bn, vn], 4), (none, adE a, 0), (none, be port 2, 2), (none, [proto, wn], 2), (none, n :: msE l, 0)]).length ≤ _; rw [hJ]; omega)) ?_
            rintro e w ⟨Aj, mj, cj, hmj, rfl, hnj, hk⟩
            refine ⟨_, rfl, ?_⟩
            replace hS := hS.add hk hnj -- +row
            replace hS := hS.nm (M' := .row (.slice Aj mj cj) 5 1 mj (J.map u8v) :: _) (by rw [← hJ]; rfl)
            replace hmj : mj = J.length := by rw [hmj, ← hJ]; rfl
            clear hnj hk
            refine hK _ _ ?_; clear hK K
            refine rg_take 31 rfl rfl (by kernel_rfl) (by kernel_rfl) (by kernel_rfl) (want_0) (fun w hok => x_assign (tmS rfl rfl)) ?_
            refine rg_done (oks_drop hS 7 rfl) (by kernel_rfl) ?_
            exact then_n ⟨_, rfl, (by repeat (first | exact agree_self | exact agree_refl | refine agree_upd rfl ?_ | refine agree_mix rfl ?_)), _, _, _, (by first | rfl | go_num | exact congrArg (Value.int _) (by first | omega | (simp; done) | (simp; omega))), (hS.pick [0] rfl rfl), (by exact hmj)⟩
          · intro K hK
            refine ow_build hS Try.underlying29 tz_5 (bc_take (tmI rfl rfl) <| bc_take (tmI rfl rfl) <| bc_nil) rfl rfl (by kernel_rfl) ?_
            clear hS; intro g1_25 w hg1_25 hS
            refine hK _ _ ?_; clear hK K
            refine rg_step 12 rfl (by kernel_rfl) (want_0) (oks_drop hS 4 rfl) ?_; intro K hK
            refine ow_build hS Try.underlying29 tz_5 (bc_take (tmI rfl rfl) <| bc_take (tmI rfl rfl) <| bc_take (tmI rfl rfl) <| bc_take (tmI rfl rfl) <| bc_nil) rfl rfl (by kernel_rfl) ?_
            clear hS; intro g1_12 w hg1_12 hS
            refine hK _ _ ?_; clear hK K
            refine rg_step 29 rfl (by kernel_rfl) (want_0) (oks_drop hS 5 rfl) ?_; intro K hK
            refine ow_build hS Try.underlying77 tz_29 (bc_take (tmS rfl rfl) <| bc_take (tmS rfl rfl) <| bc_take (tmS rfl rfl) <| bc_take (tmS rfl rfl) <| bc_take (tmS rfl rfl) <| bc_nil) rfl rfl (by kernel_rfl) ?_
            clear hS; intro g1_29 w hg1_29 hS
            refine hK _ _ ?_; clear hK K
            refine rg_step 30 rfl (by kernel_rfl) (want_0) (oks_drop hS 6 rfl) ?_; intro K hK
            refine ow_call Try.func31 rfl rfl (evs_cons (tmS rfl rfl) <| evs_nil) (join_c 5 _ _ [(some ⟨g1_12, 0, none⟩, [kn, vp, bn, vn], 4), (A2, adE a, c2), (some ⟨ga, 0, none⟩, be port 2, 2), (some ⟨g1_25, 0, none⟩, [proto, wn], 2), (A5, n :: msE l, c5)] _ (by have h := viewB hS.ok 0 rfl; simp only [List.map_cons, List.map_nil, rowV, be_length, hlm, ← hm2]; exact h) (seen_cons (viewB hS.ok 1 rfl) <| seen_cons (viewR hS.ok 5 rfl) <| seen_cons (viewR hS.ok 4 rfl) <| seen_cons (viewB hS.ok 2 rfl) <| seen_cons (viewR hS.ok 3 rfl) seen_nil) rfl (by omega) (by show (joined [((none : Option Addr), [kn, vp, bn, vn], 4), (none, adE a, 0), (none, be port 2, 2), (none, [proto, wn], 2), (none, n :: msE l, 0)]).length ≤ _; rw [hJ]; omega)) ?_
            rintro e w ⟨Aj, mj, cj, hmj, rfl, hnj, hk⟩
            refine ⟨_, rfl, ?_⟩
            replace hS := hS.add hk hnj -- +row
            replace hS := hS.nm (M' := .row (.slice Aj mj cj) 5 1 mj (J.map u8v) :: _) (by rw [← hJ]; rfl)
            replace hmj : mj = J.length := by rw [hmj, ← hJ]; rfl
            clear hnj hk
            refine hK _ _ ?_; clear hK K
            refine rg_take 31 rfl rfl (by kernel_rfl) (by kernel_rfl) (by kernel_rfl) (want_0) (fun w hok => x_assign (tmS rfl rfl)) ?_
            refine rg_done (oks_drop hS 7 rfl) (by kernel_rfl) ?_
            exact then_n ⟨_, rfl, (by repeat (first | exact agree_self | exact agree_refl | refine agree_upd rfl ?_ | refine agree_mix rfl ?_)), _, _, _, (by first | rfl | go_num | exact congrArg (Value.int _) (by first | omega | (simp; done) | (simp; omega))), (hS.pick [0] rfl rfl), (by exact hmj)⟩
      · intro K hK
        refine ow_build hS Try.underlying29 tz_5 (bc_take (tmI rfl rfl) <| bc_take (tmI rfl rfl) <| bc_nil) rfl rfl (by kernel_rfl) ?_
        clear hS; intro g1_25 w hg1_25 hS
        refine hK _ _ ?_; clear hK K
        refine rg_step2 12 19 rfl rfl (by kernel_rfl) (want_0) (want_0) (oks_drop hS 2 rfl) ?_ ?_
        · intro K hK
          refine ow_build hS Try.underlying29 tz_5 (bc_take (tmI rfl rfl) <| bc_take (tmI rfl rfl) <| bc_take (tmI rfl rfl) <| bc_take (tmI rfl rfl) <| bc_nil) rfl rfl (by kernel_rfl) ?_
          clear hS; intro g1_12 w hg1_12 hS
          refine hK _ _ ?_; clear hK K
          refine rg_step 19 rfl (by kernel_rfl) (want_0) (oks_drop hS 3 rfl) ?_; intro K hK
          refine ow_call Try.func33 rfl rfl (evs_cons (tmI rfl rfl) <| evs_cons (ev_cN 2) <| evs_nil) (rbytes_c port 2 _ (by omega) (by omega)) ?_
          rintro e w ⟨ga, rfl, hn3, hk⟩
          refine ⟨_, rfl, ?_⟩
          replace hS := hS.add hk hn3 -- +rowb
          clear hn3 hk
          refine hK _ _ ?_; clear hK K
          refine rg_step 28 rfl (by kernel_rfl) (want_0) (oks_drop hS 4 rfl) ?_; intro K hK
          refine ow_call Try.func34 rfl rfl (evs_cons (tmS rfl rfl) <| evs_nil) (rmembers_c L n c l _ (viewV hS.ok 5 rfl) hl hn64 hms) ?_
          rintro e w ⟨A5, m5, c5, rfl, hm5, hn5, hk⟩
          refine ⟨_, rfl, ?_⟩
          replace hS := hS.add hk hn5 -- +rowm
          clear hn5 hk
          have hlm : (n :: msE l).length = m5 := by rw [List.length_cons, msE_len]; omega
          refine hK _ _ ?_; clear hK K
          refine rg_step 29 rfl (by kernel_rfl) (want_0) (oks_drop hS 5 rfl) ?_; intro K hK
          refine ow_build hS Try.underlying77 tz_29 (bc_take (tmS rfl rfl) <| bc_take (tmS rfl rfl) <| bc_take (tmS rfl rfl) <| bc_take (tmS rfl rfl) <| bc_take (tmS rfl rfl) <| bc_nil) rfl rfl (by kernel_rfl) ?_
          clear hS; intro g1_29 w hg1_29 hS
          refine hK _ _ ?_; clear hK K
          refine rg_step 30 rfl (by kernel_rfl) (want_0) (oks_drop hS 6 rfl) ?_; intro K hK
          refine ow_call Try.func31 rfl rfl (evs_cons (tmS rfl rfl) <| evs_nil) (join_c 5 _ _ [(some ⟨g1_12, 0, none⟩, [kn, vp, bn, vn], 4), (A2, adE a, c2), (some ⟨ga, 0, none⟩, be port 2, 2), (some ⟨g1_25, 0, none⟩, [proto, wn], 2), (A5, n :: msE l, c5)] _ (by have h := viewB hS.ok 0 rfl; simp only [List.map_cons, List.map_nil, rowV, be_length, hlm, ← hm2]; exact h) (seen_cons (viewB hS.ok 3 rfl) <| seen_cons (viewR hS.ok 5 rfl) <| seen_cons (viewR hS.ok 2 rfl) <| seen_cons (viewB hS.ok 4 rfl) <| seen_cons (viewR hS.ok 1 rfl) seen_nil) rfl (by omega) (by show (joined [((none : Option Addr), [kn, vp, bn, vn], 4), (none, adE a, 0), (none, be port 2, 2), (none, [proto, wn], 2), (none, n :: msE l, 0)]).length ≤ _; rw [hJ]; omega)) ?_
          rintro e w ⟨Aj, mj, cj, hmj, rfl, hnj, hk⟩
          refine ⟨_, rfl, ?_⟩
          replace hS := hS.add hk hnj -- +row
          replace hS := hS.nm (M' := .row (.slice Aj mj cj) 5 1 mj (J.map u8v) :: _) (by rw [← hJ]; rfl)
          replace hmj : mj = J.length := by rw [hmj, ← hJ]; rfl
          clear hnj hk
          refine hK _ _ ?_; clear hK K
          refine rg_take 31 rfl rfl (by kernel_rfl) (by kernel_rfl) (by kernel_rfl) (want_0) (fun w hok => x_assign (tmS rfl rfl)) ?_
          refine rg_done (oks_drop hS 7 rfl) (by kernel_rfl) ?_
          exact then_n ⟨_, rfl, (by repeat (first | exact agree_self | exact agree_refl | refine agree_upd rfl ?_ | refine agree_mix rfl ?_)), _, _, _, (by first | rfl | go_num | exact congrArg (Value.int _) (by first | omega | (simp; done) | (simp; omega))), (hS.pick [0] rfl rfl), (by exact hmj)⟩
        · intro K hK
          refine ow_call Try.func33 rfl rfl (evs_cons (tmI rfl rfl) <| evs_cons (ev_cN 2) <| evs_nil) (rbytes_c port 2 _ (by omega) (by omega)) ?_
          rintro e w ⟨ga, rfl, hn3, hk⟩
          refine ⟨_, rfl, ?_⟩
          replace hS := hS.add hk hn3 -- +rowb
          clear hn3 hk
          refine hK _ _ ?_; clear hK K
          refine rg_step2 12 28 rfl rfl (by kernel_rfl) (want_0) (want_0) (oks_drop hS 3 rfl) ?_ ?_
          · intro K hK
            refine ow_build hS Try.underlying29 tz_5 (bc_take (tmI rfl rfl) <| bc_take (tmI rfl rfl) <| bc_take (tmI rfl rfl) <| bc_take (tmI rfl rfl) <| bc_nil) rfl rfl (by kernel_rfl) ?_
            clear hS; intro g1_12 w hg1_12 hS
            refine hK _ _ ?_; clear hK K
            refine rg_step 28 rfl (by kernel_rfl) (want_0) (oks_drop hS 4 rfl) ?_; intro K hK
            refine ow_call Try.func34 rfl rfl (evs_cons (tmS rfl rfl) <| evs_nil) (rmembers_c L n c l _ (viewV hS.ok 5 rfl) hl hn64 hms) ?_
            rintro e w ⟨A5, m5, c5, rfl, hm5, hn5, hk⟩
            refine ⟨_, rfl, ?_⟩
            replace hS := hS.add hk hn5 -- +rowm
            clear hn5 hk
            have hlm : (n :: msE l).length = m5 := by rw [List.length_cons, msE_len]; omega
            refine hK _ _ ?_; clear hK K
            refine rg_step 29 rfl (by kernel_rfl) (want_0) (oks_drop hS 5 rfl) ?_; intro K hK
            refine ow_build hS Try.underlying77 tz_29 (bc_take (tmS rfl rfl) <| bc_take (tmS rfl rfl) <| bc_take (tmS rfl rfl) <| bc_take (tmS rfl rfl) <| bc_take (tmS rfl rfl) <| bc_nil) rfl rfl (by kernel_rfl) ?_
            clear hS; intro g1_29 w hg1_29 hS
            refine hK _ _ ?_; clear hK K
            refine rg_step 30 rfl (by kernel_rfl) (want_0) (oks_drop hS 6 rfl) ?_; intro K hK
            refine ow_call Try.func31 rfl rfl (evs_cons (tmS rfl rfl) <| evs_nil) (join_c 5 _ _ [(some ⟨g1_12, 0, none⟩, [kn, vp, bn, vn], 4), (A2, adE a, c2), (some ⟨ga, 0, none⟩, be port 2, 2), (some ⟨g1_25, 0, none⟩, [proto, wn], 2), (A5, n :: msE l, c5)] _ (by have h := viewB hS.ok 0 rfl; simp only [List.map_cons, List.map_nil, rowV, be_length, hlm, ← hm2]; exact h) (seen_cons (viewB hS.ok 2 rfl) <| seen_cons (viewR hS.ok 5 rfl) <| seen_cons (viewR hS.ok 3 rfl) <| seen_cons (viewB hS.ok 4 rfl) <| seen_cons (viewR hS.ok 1 rfl) seen_nil) rfl (by omega) (by show (joined [((none : Option Addr), [kn, vp, bn, vn], 4), (none, adE a, 0), (none, be port 2, 2), (none, [proto, wn], 2), (none, n :: msE l, 0)]).length ≤ _; rw [hJ]; omega)) ?_
            rintro e w ⟨Aj, mj, cj, hmj, rfl, hnj, hk⟩
            refine ⟨_, rfl, ?_⟩
            replace hS := hS.add hk hnj -- +row
            replace hS := hS.nm (M' := .row (.slice Aj mj cj) 5 1 mj (J.map u8v) :: _) (by rw [← hJ]; rfl)
            replace hmj : mj = J.length := by rw [hmj, ← hJ]; rfl
            clear hnj hk
            refine hK _ _ ?_; clear hK K
            refine rg_take 31 rfl rfl (by kernel_rfl) (by kernel_rfl) (by kernel_rfl) (want_0) (fun w hok => x_assign (tmS rfl rfl)) ?_
            refine rg_done (oks_drop hS 7 rfl) (by kernel_rfl) ?_
            exact then_n ⟨_, rfl, (by repeat (first | exact agree_self | exact agree_refl | refine agree_upd rfl ?_ | refine agree_mix rfl ?_)), _, _, _, (by first | rfl | go_num | exact congrArg (Value.int _) (by first | omega | (simp; done) | (simp; omega))), (hS.pick [0] rfl rfl), (by exact hmj)⟩
          · intro K hK
            refine ow_call Try.func34 rfl rfl (evs_cons (tmS rfl rfl) <| evs_nil) (rmembers_c L n c l _ (viewV hS.ok 4 rfl) hl hn64 hms) ?_
            rintro e w ⟨A5, m5, c5, rfl, hm5, hn5, hk⟩
            refine ⟨_, rfl, ?_⟩
            replace hS := hS.add hk hn5 -- +rowm
            clear hn5 hk
            have hlm : (n :: msE l).length = m5 := by rw [List.length_cons, msE_len]; omega
            refine hK _ _ ?_; clear hK K
            refine rg_step 12 rfl (by kernel_rfl) (want_0) (oks_drop hS 4 rfl) ?_; intro K hK
            refine ow_build hS Try.underlying29 tz_5 (bc_take (tmI rfl rfl) <| bc_take (tmI rfl rfl) <| bc_take (tmI rfl rfl) <| bc_take (tmI rfl rfl) <| bc_nil) rfl rfl (by kernel_rfl) ?_
            clear hS; intro g1_12 w hg1_12 hS
            refine hK _ _ ?_; clear hK K
            refine rg_step 29 rfl (by kernel_rfl) (want_0) (oks_drop hS 5 rfl) ?_; intro K hK
            refine ow_build hS Try.underlying77 tz_29 (bc_take (tmS rfl rfl) <| bc_take (tmS rfl rfl) <| bc_take (tmS rfl rfl) <| bc_take (tmS rfl rfl) <| bc_take (tmS rfl rfl) <| bc_nil) rfl rfl (by kernel_rfl) ?_
            clear hS; intro g1_29 w hg1_29 hS
            refine hK _ _ ?_; clear hK K
            refine rg_step 30 rfl (by kernel_rfl) (want_0) (oks_drop hS 6 rfl) ?_; intro K hK
            refine ow_call Try.func31 rfl rfl (evs_cons (tmS rfl rfl) <| evs_nil) (join_c 5 _ _ [(some ⟨g1_12, 0, none⟩, [kn, vp, bn, vn], 4), (A2, adE a, c2), (some ⟨ga, 0, none⟩, be port 2, 2), (some ⟨g1_25, 0, none⟩, [proto, wn], 2), (A5, n :: msE l, c5)] _ (by have h := viewB hS.ok 0 rfl; simp only [List.map_cons, List.map_nil, rowV, be_length, hlm, ← hm2]; exact h) (seen_cons (viewB hS.ok 1 rfl) <| seen_cons (viewR hS.ok 5 rfl) <| seen_cons (viewR hS.ok 3 rfl) <| seen_cons (viewB hS.ok 4 rfl) <| seen_cons (viewR hS.ok 2 rfl) seen_nil) rfl (by omega) (by show (joined [((none : Option Addr), [kn, vp, bn, vn], 4), (none, adE a, 0), (none, be port 2, 2), (none, [proto, wn], 2), (none, n :: msE l, 0)]).length ≤ _; rw [hJ]; omega)) ?_
            rintro e w ⟨Aj, mj, cj, hmj, rfl, hnj, hk⟩
            refine ⟨_, rfl, ?_⟩
            replace hS := hS.add hk hnj -- +row
            replace hS := hS.nm (M' := .row (.slice Aj mj cj) 5 1 mj (J.map u8v) :: _) (by rw [← hJ]; rfl)
            replace hmj : mj = J.length := by rw [hmj, ← hJ]; rfl
            clear hnj hk
            refine hK _ _ ?_; clear hK K
            refine rg_take 31 rfl rfl (by kernel_rfl) (by kernel_rfl) (by kernel_rfl) (want_0) (fun w hok => x_assign (tmS rfl rfl)) ?_
            refine rg_done (oks_drop hS 7 rfl) (by kernel_rfl) ?_
            exact then_n ⟨_, rfl, (by repeat (first | exact agree_self | exact agree_refl | refine agree_upd rfl ?_ | refine agree_mix rfl ?_)), _, _, _, (by first | rfl | go_num | exact congrArg (Value.int _) (by first | omega | (simp; done) | (simp; omega))), (hS.pick [0] rfl rfl), (by exact hmj)⟩
    · intro K hK
      refine ow_build hS Try.underlying29 tz_5 (bc_take (tmI rfl rfl) <| bc_take (tmI rfl rfl) <| bc_nil) rfl rfl (by kernel_rfl) ?_
      clear hS; intro g1_25 w hg1_25 hS
      refine hK _ _ ?_; clear hK K
      refine rg_step2 12 15 rfl rfl (by kernel_rfl) (want_0) (want_0) (oks_drop hS 1 rfl) ?_ ?_
      · intro K hK
        refine ow_build hS Try.underlying29 tz_5 (bc_take (tmI rfl rfl) <| bc_take (tmI rfl rfl) <| bc_take (tmI rfl rfl) <| bc_take (tmI rfl rfl) <| bc_nil) rfl rfl (by kernel_rfl) ?_
        clear hS; intro g1_12 w hg1_12 hS
        refine hK _ _ ?_; clear hK K
        refine rg_step 15 rfl (by kernel_rfl) (want_0) (oks_drop hS 2 rfl) ?_; intro K hK
        refine ow_call Try.func32 rfl rfl (evs_cons (tmA rfl rfl) <| evs_nil) (rplace_c a _ hla) ?_
        rintro e w ⟨A2, m2, c2, rfl, hm2, hn2, hk⟩
        refine ⟨_, rfl, ?_⟩
        replace hS := hS.add hk hn2 -- +rowp
        clear hn2 hk
        refine hK _ _ ?_; clear hK K
        refine rg_step 19 rfl (by kernel_rfl) (want_0) (oks_drop hS 3 rfl) ?_; intro K hK
        refine ow_call Try.func33 rfl rfl (evs_cons (tmI rfl rfl) <| evs_cons (ev_cN 2) <| evs_nil) (rbytes_c port 2 _ (by omega) (by omega)) ?_
        rintro e w ⟨ga, rfl, hn3, hk⟩
        refine ⟨_, rfl, ?_⟩
        replace hS := hS.add hk hn3 -- +rowb
        clear hn3 hk
        refine hK _ _ ?_; clear hK K
        refine rg_step 28 rfl (by kernel_rfl) (want_0) (oks_drop hS 4 rfl) ?_; intro K hK
        refine ow_call Try.func34 rfl rfl (evs_cons (tmS rfl rfl) <| evs_nil) (rmembers_c L n c l _ (viewV hS.ok 5 rfl) hl hn64 hms) ?_
        rintro e w ⟨A5, m5, c5, rfl, hm5, hn5, hk⟩
        refine ⟨_, rfl, ?_⟩
        replace hS := hS.add hk hn5 -- +rowm
        clear hn5 hk
        have hlm : (n :: msE l).length = m5 := by rw [List.length_cons, msE_len]; omega
        refine hK _ _ ?_; clear hK K
        refine rg_step 29 rfl (by kernel_rfl) (want_0) (oks_drop hS 5 rfl) ?_; intro K hK
        refine ow_build hS Try.underlying77 tz_29 (bc_take (tmS rfl rfl) <| bc_take (tmS rfl rfl) <| bc_take (tmS rfl rfl) <| bc_take (tmS rfl rfl) <| bc_take (tmS rfl rfl) <| bc_nil) rfl rfl (by kernel_rfl) ?_
        clear hS; intro g1_29 w hg1_29 hS
        refine hK _ _ ?_; clear hK K
        refine rg_step 30 rfl (by kernel_rfl) (want_0) (oks_drop hS 6 rfl) ?_; intro K hK
        refine ow_call Try.func31 rfl rfl (evs_cons (tmS rfl rfl) <| evs_nil) (join_c 5 _ _ [(some ⟨g1_12, 0, none⟩, [kn, vp, bn, vn], 4), (A2, adE a, c2), (some ⟨ga, 0, none⟩, be port 2, 2), (some ⟨g1_25, 0, none⟩, [proto, wn], 2), (A5, n :: msE l, c5)] _ (by have h := viewB hS.ok 0 rfl; simp only [List.map_cons, List.map_nil, rowV, be_length, hlm, ← hm2]; exact h) (seen_cons (viewB hS.ok 4 rfl) <| seen_cons (viewR hS.ok 3 rfl) <| seen_cons (viewR hS.ok 2 rfl) <| seen_cons (viewB hS.ok 5 rfl) <| seen_cons (viewR hS.ok 1 rfl) seen_nil) rfl (by omega) (by show (joined [((none : Option Addr), [kn, vp, bn, vn], 4), (none, adE a, 0), (none, be port 2, 2), (none, [proto, wn], 2), (none, n :: msE l, 0)]).length ≤ _; rw [hJ]; omega)) ?_
        rintro e w ⟨Aj, mj, cj, hmj, rfl, hnj, hk⟩
        refine ⟨_, rfl, ?_⟩
        replace hS := hS.add hk hnj -- +row
        replace hS := hS.nm (M' := .row (.slice Aj mj cj) 5 1 mj (J.map u8v) :: _) (by rw [← hJ]; rfl)
        replace hmj : mj = J.length := by rw [hmj, ← hJ]; rfl
        clear hnj hk
        refine hK _ _ ?_; clear hK K
        refine rg_take 31 rfl rfl (by kernel_rfl) (by kernel_rfl) (by kernel_rfl) (want_0) (fun w hok => x_assign (tmS rfl rfl)) ?_
        refine rg_done (oks_drop hS 7 rfl) (by kernel_rfl) ?_
        exact then_n ⟨_, rfl, (by repeat (first | exact agree_self | exact agree_refl | refine agree_upd rfl ?_ | refine agree_mix rfl ?_)), _, _, _, (by first | rfl | go_num | exact congrArg (Value.int _) (by first | omega | (simp; done) | (simp; omega))), (hS.pick [0] rfl rfl), (by exact hmj)⟩
      · intro K hK
        refine ow_call Try.func32 rfl rfl (evs_cons (tmA rfl rfl) <| evs_nil) (rplace_c a _ hla) ?_
        rintro e w ⟨A2, m2, c2, rfl, hm2, hn2, hk⟩
        refine ⟨_, rfl, ?_⟩
        replace hS := hS.add hk hn2 -- +rowp
        clear hn2 hk
        refine hK _ _ ?_; clear hK K
        refine rg_step2 12 19 rfl rfl (by kernel_rfl) (want_0) (want_0) (oks_drop hS 2 rfl) ?_ ?_
        · intro K hK
          refine ow_build hS Try.underlying29 tz_5 (bc_take (tmI rfl rfl) <| bc_take (tmI rfl rfl) <| bc_take (tmI rfl rfl) <| bc_take (tmI rfl rfl) <| bc_nil) rfl rfl (by kernel_rfl) ?_
          clear hS; intro g1_12 w hg1_12 hS
          refine hK _ _ ?_; clear hK K
          refine rg_step 19 rfl (by kernel_rfl) (want_0) (oks_drop hS 3 rfl) ?_; intro K hK
          refine ow_call Try.func33 rfl rfl (evs_cons (tmI rfl rfl) <| evs_cons (ev_cN 2) <| evs_nil) (rbytes_c port 2 _ (by omega) (by omega)) ?_
          rintro e w ⟨ga, rfl, hn3, hk⟩
          refine ⟨_, rfl, ?_⟩
          replace hS := hS.add hk hn3 -- +rowb
          clear hn3 hk
          refine hK _ _ ?_; clear hK K
          refine rg_step 28 rfl (by kernel_rfl) (want_0) (oks_drop hS 4 rfl) ?_; intro K hK
          refine ow_call Try.func34 rfl rfl (evs_cons (tmS rfl rfl) <| evs_nil) (rmembers_c L n c l _ (viewV hS.ok 5 rfl) hl hn64 hms) ?_
          rintro e w ⟨A5, m5, c5, rfl, hm5, hn5, hk⟩
          refine ⟨_, rfl, ?_⟩
          replace hS := hS.add hk hn5 -- +rowm
          clear hn5 hk
          have hlm : (n :: msE l).length = m5 := by rw [List.length_cons, msE_len]; omega
          refine hK _ _ ?_; clear hK K
          refine rg_step 29 rfl (by kernel_rfl) (want_0) (oks_drop hS 5 rfl) ?_; intro K hK
          refine ow_build hS Try.underlying77 tz_29 (bc_take (tmS rfl rfl) <| bc_take (tmS rfl rfl) <| bc_take (tmS rfl rfl) <| bc_take (tmS rfl rfl) <| bc_take (tmS rfl rfl) <| bc_nil) rfl rfl (by kernel_rfl) ?_
          clear hS; intro g1_29 w hg1_29 hS
          refine hK _ _ ?_; clear hK K
          refine rg_step 30 rfl (by kernel_rfl) (want_0) (oks_drop hS 6 rfl) ?_; intro K hK
          refine ow_call Try.func31 rfl rfl (evs_cons (tmS rfl rfl) <| evs_nil) (join_c 5 _ _ [(some ⟨g1_12, 0, none⟩, [kn, vp, bn, vn], 4), (A2, adE a, c2), (some ⟨ga, 0, none⟩, be port 2, 2), (some ⟨g1_25, 0, none⟩, [proto, wn], 2), (A5, n :: msE l, c5)] _ (by have h := viewB hS.ok 0 rfl; simp only [List.map_cons, List.map_nil, rowV, be_length, hlm, ← hm2]; exact h) (seen_cons (viewB hS.ok 3 rfl) <| seen_cons (viewR hS.ok 4 rfl) <| seen_cons (viewR hS.ok 2 rfl) <| seen_cons (viewB hS.ok 5 rfl) <| seen_cons (viewR hS.ok 1 rfl) seen_nil) rfl (by omega) (by show (joined [((none : Option Addr), [kn, vp, bn, vn], 4), (none, adE a, 0), (none, be port 2, 2), (none, [proto, wn], 2), (none, n :: msE l, 0)]).length ≤ _; rw [hJ]; omega)) ?_
          rintro e w ⟨Aj, mj, cj, hmj, rfl, hnj, hk⟩
          refine ⟨_, rfl, ?_⟩
          replace hS := hS.add hk hnj -- +row
          replace hS := hS.nm (M' := .row (.slice Aj mj cj) 5 1 mj (J.map u8v) :: _) (by rw [← hJ]; rfl)
          replace hmj : mj = J.length := by rw [hmj, ← hJ]; rfl
          clear hnj hk
          refine hK _ _ ?_; clear hK K
          refine rg_take 31 rfl rfl (by kernel_rfl) (by kernel_rfl) (by kernel_rfl) (want_0) (fun w hok => x_assign (tmS rfl rfl)) ?_
          refine rg_done (oks_drop hS 7 rfl) (by kernel_rfl) ?_
          exact then_n ⟨_, rfl, (by repeat (first | exact agree_self | exact agree_refl | refine agree_upd rfl ?_ | refine agree_mix rfl ?_)), _, _, _, (by first | rfl | go_num | exact congrArg (Value.int _) (by first | omega | (simp; done) | (simp; omega))), (hS.pick [0] rfl rfl), (by exact hmj)⟩
        · intro K hK
          refine ow_call Try.func33 rfl rfl (evs_cons (tmI rfl rfl) <| evs_cons (ev_cN 2) <| evs_nil) (rbytes_c port 2 _ (by omega) (by omega)) ?_
          rintro e w ⟨ga, rfl, hn3, hk⟩
          refine ⟨_, rfl, ?_⟩
          replace hS := hS.add hk hn3 -- +rowb
          clear hn3 hk
          refine hK _ _ ?_; clear hK K
          refine rg_step2 12 28 rfl rfl (by kernel_rfl) (want_0) (want_0) (oks_drop hS 3 rfl) ?_ ?_
          · intro K hK
            refine ow_build hS Try.underlying29 tz_5 (bc_take (tmI rfl rfl) <| bc_take (tmI rfl rfl) <| bc_take (tmI rfl rfl) <| bc_take (tmI rfl rfl) <| bc_nil) rfl rfl (by kernel_rfl) ?_
            clear hS; intro g1_12 w hg1_12 hS
            refine hK _ _ ?_; clear hK K
            refine rg_step 28 rfl (by kernel_rfl) (want_0) (oks_drop hS 4 rfl) ?_; intro K hK
            refine ow_call Try.func34 rfl rfl (evs_cons (tmS rfl rfl) <| evs_nil) (rmembers_c L n c l _ (viewV hS.ok 5 rfl) hl hn64 hms) ?_
            rintro e w ⟨A5, m5, c5, rfl, hm5, hn5, hk⟩
            refine ⟨_, rfl, ?_⟩
            replace hS := hS.add hk hn5 -- +rowm
            clear hn5 hk
            have hlm : (n :: msE l).length = m5 := by rw [List.length_cons, msE_len]; omega
            refine hK _ _ ?_; clear hK K
            refine rg_step 29 rfl (by kernel_rfl) (want_0) (oks_drop hS 5 rfl) ?_; intro K hK
            refine ow_build hS Try.underlying77 tz_29 (bc_take (tmS rfl rfl) <| bc_take (tmS rfl rfl) <| bc_take (tmS rfl rfl) <| bc_take (tmS rfl rfl) <| bc_take (tmS rfl rfl) <| bc_nil) rfl rfl (by kernel_rfl) ?_
            clear hS; intro g1_29 w hg1_29 hS
            refine hK _ _ ?_; clear hK K
            refine rg_step 30 rfl (by kernel_rfl) (want_0) (oks_drop hS 6 rfl) ?_; intro K hK
            refine ow_call Try.func31 rfl rfl (evs_cons (tmS rfl rfl) <| evs_nil) (join_c 5 _ _ [(some ⟨g1_12, 0, none⟩, [kn, vp, bn, vn], 4), (A2, adE a, c2), (some ⟨ga, 0, none⟩, be port 2, 2), (some ⟨g1_25, 0, none⟩, [proto, wn], 2), (A5, n :: msE l, c5)] _ (by have h := viewB hS.ok 0 rfl; simp only [List.map_cons, List.map_nil, rowV, be_length, hlm, ← hm2]; exact h) (seen_cons (viewB hS.ok 2 rfl) <| seen_cons (viewR hS.ok 4 rfl) <| seen_cons (viewR hS.ok 3 rfl) <| seen_cons (viewB hS.ok 5 rfl) <| seen_cons (viewR hS.ok 1 rfl) seen_nil) rfl (by omega) (by show (joined [((none : Option Addr), [kn, vp, bn, vn], 4), (none, adE a, 0), (none, be port 2, 2), (none, [proto, wn], 2), (none, n :: msE l, 0)]).length ≤ _; rw [hJ]; omega)) ?_
            rintro e w ⟨Aj, mj, cj, hmj, rfl, hnj, hk⟩
            refine ⟨_, rfl, ?_⟩
            replace hS := hS.add hk hnj -- +row
            replace hS := hS.nm (M' := .row (.slice Aj mj cj) 5 1 mj (J.map u8v) :: _) (by rw [← hJ]; rfl)
            replace hmj : mj = J.length := by rw [hmj, ← hJ]; rfl
            clear hnj hk
            refine hK _ _ ?_; clear hK K
            refine rg_take 31 rfl rfl (by kernel_rfl) (by kernel_rfl) (by kernel_rfl) (want_0) (fun w hok => x_assign (tmS rfl rfl)) ?_
            refine rg_done (oks_drop hS 7 rfl) (by kernel_rfl) ?_
            exact then_n ⟨_, rfl, (by repeat (first | exact agree_self | exact agree_refl | refine agree_upd rfl ?_ | refine agree_mix rfl ?_)), _, _, _, (by first | rfl | go_num | exact congrArg (Value.int _) (by first | omega | (simp; done) | (simp; omega))), (hS.pick [0] rfl rfl), (by exact hmj)⟩
          · intro K hK
            refine ow_call Try.func34 rfl rfl (evs_cons (tmS rfl rfl) <| evs_nil) (rmembers_c L n c l _ (viewV hS.ok 4 rfl) hl hn64 hms) ?_
            rintro e w ⟨A5, m5, c5, rfl, hm5, hn5, hk⟩
            refine ⟨_, rfl, ?_⟩
            replace hS := hS.add hk hn5 -- +rowm
            clear hn5 hk
            have hlm : (n :: msE l).length = m5 := by rw [List.length_cons, msE_len]; omega
            refine hK _ _ ?_; clear hK K
            refine rg_step 12 rfl (by kernel_rfl) (want_0) (oks_drop hS 4 rfl) ?_; intro K hK
            refine ow_build hS Try.underlying29 tz_5 (bc_take (tmI rfl rfl) <| bc_take (tmI rfl rfl) <| bc_take (tmI rfl rfl) <| bc_take (tmI rfl rfl) <| bc_nil) rfl rfl (by kernel_rfl) ?_
            clear hS; intro g1_12 w hg1_12 hS
            refine hK _ _ ?_; clear hK K
            refine rg_step 29 rfl (by kernel_rfl) (want_0) (oks_drop hS 5 rfl) ?_; intro K hK
            refine ow_build hS Try.underlying77 tz_29 (bc_take (tmS rfl rfl) <| bc_take (tmS rfl rfl) <| bc_take (tmS rfl rfl) <| bc_take (tmS rfl rfl) <| bc_take (tmS rfl rfl) <| bc_nil) rfl rfl (by kernel_rfl) ?_
            clear hS; intro g1_29 w hg1_29 hS
            refine hK _ _ ?_; clear hK K
            refine rg_step 30 rfl (by kernel_rfl) (want_0) (oks_drop hS 6 rfl) ?_; intro K hK
            refine ow_call Try.func31 rfl rfl (evs_cons (tmS rfl rfl) <| evs_nil) (join_c 5 _ _ [(some ⟨g1_12, 0, none⟩, [kn, vp, bn, vn], 4), (A2, adE a, c2), (some ⟨ga, 0, none⟩, be port 2, 2), (some ⟨g1_25, 0, none⟩, [proto, wn], 2), (A5, n :: msE l, c5)] _ (by have h := viewB hS.ok 0 rfl; simp only [List.map_cons, List.map_nil, rowV, be_length, hlm, ← hm2]; exact h) (seen_cons (viewB hS.ok 1 rfl) <| seen_cons (viewR hS.ok 4 rfl) <| seen_cons (viewR hS.ok 3 rfl) <| seen_cons (viewB hS.ok 5 rfl) <| seen_cons (viewR hS.ok 2 rfl) seen_nil) rfl (by omega) (by show (joined [((none : Option Addr), [kn, vp, bn, vn], 4), (none, adE a, 0), (none, be port 2, 2), (none, [proto, wn], 2), (none, n :: msE l, 0)]).length ≤ _; rw [hJ]; omega)) ?_
            rintro e w ⟨Aj, mj, cj, hmj, rfl, hnj, hk⟩
            refine ⟨_, rfl, ?_⟩
            replace hS := hS.add hk hnj -- +row
            replace hS := hS.nm (M' := .row (.slice Aj mj cj) 5 1 mj (J.map u8v) :: _) (by rw [← hJ]; rfl)
            replace hmj : mj = J.length := by rw [hmj, ← hJ]; rfl
            clear hnj hk
            refine hK _ _ ?_; clear hK K
            refine rg_take 31 rfl rfl (by kernel_rfl) (by kernel_rfl) (by kernel_rfl) (want_0) (fun w hok => x_assign (tmS rfl rfl)) ?_
            refine rg_done (oks_drop hS 7 rfl) (by kernel_rfl) ?_
            exact then_n ⟨_, rfl, (by repeat (first | exact agree_self | exact agree_refl | refine agree_upd rfl ?_ | refine agree_mix rfl ?_)), _, _, _, (by first | rfl | go_num | exact congrArg (Value.int _) (by first | omega | (simp; done) | (simp; omega))), (hS.pick [0] rfl rfl), (by exact hmj)⟩
  · clear hS; intro g w hI
    obtain ⟨G, m, cg, hs2, hS, hm⟩ := hI
    refine fr_knowQ (d := 2) hs2 ?_; clear hs2
    refine then_n (hK2 _ _ ?_); clear hK2 K2
    refine wp_ret ?_
    refine ret1 rfl (.tmp rfl (show _ = Value.slice _ _ _ from rfl)) ?_
    exact ⟨G, m, cg, rfl, hm, hS.new 0 rfl rfl, hS.kp⟩
end Go.Proofs.Ytoaodcbfehfdoaa
