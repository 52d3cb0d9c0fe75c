import Derived.Test.YtcobjneobdihkaaSteerWholeZF
/- Proved: SteerWhole returns true for every input, and changes no memory that was there. Conditions: none. -/
namespace Go.Proofs.Ytcobjneobdihkaa
open Go.ChangeShapes Go.WideShapes Go.ChangeAt Go.RowKit
theorem ReadS.at_ {fn : Nat} {six : Bool} {l : List Nat} {q : List Value} {ok : Bool} {m : Nat} (h : ReadS fn six l q ok) (hm : l.length = m) : ∀ (w : World) (A : Option Addr) (c : Nat), View w w.heap.size A (l.map u8v) → m ≤ c →
    Calls Try.prog fn #[.slice A m c, .bool six] w fun e w' => e = .returned (.tuple #[.agg q.toArray, .bool ok]) ∧ Kp [] w w' := by
  subst hm; exact h
namespace SteerWhole
set_option maxRecDepth 100000 in
set_option maxHeartbeats 16000000 in
theorem walkC (A : Option Addr) (n c : Nat) (l : List Nat) (b : Nat) (w0 : World)
    (r1 : l.length = n ∧ (A = none → c = 0) ∧ BView w0 w0.heap.size A l ∧ n ≤ c) (hb16 : b < 65536) :
    Calls Try.prog 4 #[.slice A n c, .int .u16 (b : Int)] w0 fun e w' => e = .returned (.bool true) ∧ Below w0.heap.size w0 w' := by
  obtain ⟨rfl, _, ⟨hb, hv⟩, hc⟩ := r1
  have hS := (St.sv w0).vcons rfl hv
  by_cases hbig : l.length ≤ 3000
  · obtain ⟨ri, why, hok, hfine, hA, hB⟩ := whole_ex l hb hbig
    by_cases hf : why = 0 ∧ (ri.pr = 6 ∨ ri.pr = 17)
    · obtain ⟨h0, hp⟩ := hf
      obtain ⟨i, x, hX, hCx⟩ := hfine h0 hp
      obtain ⟨hpr, hR, hPre⟩ := whole_steer l hb hbig hX hCx hp
      subst h0
      obtain ⟨m, hm⟩ : ∃ m, b % (l.length + 1) = m := ⟨_, rfl⟩
      have hml : m ≤ l.length := by rw [← hm]; have := Nat.mod_lt b (show 0 < l.length + 1 by omega); omega
      have hlt : (l.take m).length = m := by rw [List.length_take]; omega
      obtain ⟨s, d, sp, dp, pr, st, has, ok, hP, himp⟩ := hPre m
      obtain ⟨sv, hsv⟩ : ∃ sv, sv = soV ri.T.o := ⟨_, rfl⟩
      obtain ⟨sh, hsh⟩ : ∃ sh, sh = soH ri.T.o := ⟨_, rfl⟩
      rw [← hsv, ← hsh] at hR himp
      rw [← hsh] at hpr
      have hob : Bytes ri.T.o := hok.1.1
      have hol : ri.T.o.length ≤ 3000 := hok.1.2.2.1
      refine ent (n := 136) Try.func4 rfl rfl ?_
      refine wp_seq_k ?_; intro K1 hK1
      refine wlit ?_
      refine wl_v (x_assign ev_c) ?_
      refine wl_nil ?_
      refine then_n (hK1 _ _ ?_); clear hK1 K1
      refine wp_seq_k ?_; intro K2 hK2
      refine wp_seq_k ?_; intro K3 hK3
      refine wlit ?_
      refine wl_v (x_move (tmS rfl rfl)) ?_
      refine wl_v (x_len Try.underlying22 (tmS rfl rfl)) ?_
      refine wl_v (x_gtr (tmI rfl rfl) (ev_cN 3000)) ?_
      refine wl_nil ?_
      refine then_n (hK3 _ _ ?_); clear hK3 K3
      refine cnd (tm rfl) (fun hc0 => ?_) (fun hc0 => ?_)
      · exfalso
        simp at hc0
        omega
      try simp only [nrm] at hc0
      refine wp_skip ?_
      refine then_n (hK2 _ _ ?_); clear hK2 K2
      refine wp_seq_k ?_; intro K4 hK4
      refine wlit ?_
      refine wl_v (x_move (tmS rfl rfl)) ?_
      refine wl_e rfl ?_; intro K hK
      refine ow_call Try.func8 rfl rfl (evs_cons (tmS rfl rfl) <| evs_nil) (hB _ A c (viewV hS.ok 0 rfl) hc) ?_
      rintro e w ⟨pb, rfl, hcb, n1, n2, n3, n4, hk⟩
      refine ⟨_, rfl, ?_⟩
      replace hS := (hS.addn4 hk n1 n2 n3 n4) -- +b1,b2,b3,b4
      clear hk n1 n2 n3 n4
      refine hK _ _ ?_; clear hK K
      refine wl_v (x_move (tmT rfl rfl)) ?_
      refine wl_v (x_ext (tmT rfl rfl) rfl) ?_
      refine wl_v (x_ext (tmT rfl rfl) rfl) ?_
      refine wl_e rfl ?_; intro K hK
      refine ow_alloc hS tz_46 rfl ?_
      clear hS; intro g3_5 w hg3_5 hS
      refine hK _ _ ?_; clear hK K
      refine wl_e rfl ?_; intro K hK
      refine ow_storeA hS 0 rfl ts_46 (tmP rfl rfl) (tmA rfl rfl) rfl rfl rfl ?_
      clear hS; intro w hS
      try replace hS := St.nm (M' := [.blk _ _ [_, _, _, _, _, _, _, _, _, _, _, _, _, _, _, _, _, _, _, _, _, _, _, _, _, _, _, _, _, _, _], _, _, _, _, .vw _ _]) hS rfl
      refine hK _ _ ?_; clear hK K
      refine wl_v (x_assign (tmI rfl rfl)) ?_
      refine wl_nil ?_
      refine then_n (hK4 _ _ ?_); clear hK4 K4
      refine wp_seq_k ?_; intro K5 hK5
      refine wp_seq_k ?_; intro K6 hK6
      refine cutc [25, 26, 27, 28, 29, 30, 31, 32, 33, 34, 35, 36, 37, 38] (fun g w => g 38 = .bool false ∧ St [] w0 [.blk g3_5 46 (ri.V pb), .vw pb.O (ri.T.o.map u8v), .vw pb.X (ri.T.x.map u8v), .vw pb.U (ri.D.x.map u8v), .vw pb.M (ri.I.x.map u8v), .vw A (l.map u8v)] w) ?_ ?_
      · skip
        refine wlit ?_
        refine wl_v (x_move (tmI rfl rfl)) ?_
        refine wl_v (x_neq (tmI rfl rfl) (ev_cN 0)) ?_
        refine wl_v (x_move (tmB rfl rfl)) ?_
        refine gs_wl (tm (t := 27) rfl) (fun hg4_2 => ?_) (fun hg4_2 => ?_)
        · exfalso
          simp at hg4_2
        have hg4_2' := hg4_2; (try simp only [nrm] at hg4_2')
        refine wl_gv (want_y rfl rfl rfl rfl (by rw [hg4_2]; rfl)) (x_fa 3 Try.underlying46 rfl rfl ts_29 (tmP rfl rfl)) ?_
        refine wl_gv (want_y rfl rfl rfl rfl (by rw [hg4_2]; rfl)) (x_fa 8 Try.underlying29 rfl rfl ts_5 (tmP rfl rfl)) ?_
        refine wl_gv (want_y rfl rfl rfl rfl (by rw [hg4_2]; rfl)) (x_load Try.underlying5 rfl (tmP rfl rfl) (cellB hS.ok 0 rfl rfl)) ?_
        refine wl_gv (want_y rfl rfl rfl rfl (by rw [hg4_2]; rfl)) (x_neq (tmI rfl rfl) (ev_cN 6)) ?_
        refine wl_gv (want_y rfl rfl rfl rfl (by rw [hg4_2]; rfl)) (x_move (tmB rfl rfl)) ?_
        refine gs_wl (tm (t := 32) rfl) (fun hg4_7 => ?_) (fun hg4_7 => ?_)
        · have hg4_7' := hg4_7; (try simp only [nrm] at hg4_7')
          refine wl_gv (want_y rfl rfl rfl rfl (by rw [hg4_7]; rfl)) (x_fa 3 Try.underlying46 rfl rfl ts_29 (tmP rfl rfl)) ?_
          refine wl_gv (want_y rfl rfl rfl rfl (by rw [hg4_7]; rfl)) (x_fa 8 Try.underlying29 rfl rfl ts_5 (tmP rfl rfl)) ?_
          refine wl_gv (want_y rfl rfl rfl rfl (by rw [hg4_7]; rfl)) (x_load Try.underlying5 rfl (tmP rfl rfl) (cellB hS.ok 0 rfl rfl)) ?_
          refine wl_gv (want_y rfl rfl rfl rfl (by rw [hg4_7]; rfl)) (x_neq (tmI rfl rfl) (ev_cN 17)) ?_
          refine wl_gv (want_y rfl rfl rfl rfl (by rw [hg4_2]; rfl)) (x_pickT (tmB rfl rfl) hg4_7 (tmB rfl rfl)) ?_
          refine wl_v (x_pickF (tmB rfl rfl) hg4_2 (tmB rfl rfl)) ?_
          refine wl_nil ?_
          exact then_n ⟨_, rfl, (by repeat (first | exact agree_self | exact agree_refl | refine agree_upd rfl ?_ | refine agree_mix rfl ?_)), (by first | rfl | (first | rfl | exact congrArg Value.bool (by first | (simp; done) | (simp; omega)); done) | (first | rfl | exact congrArg Value.bool (by first | (simp; done) | (simp; omega)); rfl) | (first | rfl | exact congrArg Value.bool (by first | (simp; done) | (simp; omega)); go_num)), hS⟩
        have hg4_7' := hg4_7; (try simp only [nrm] at hg4_7')
        refine wl_s rfl (want_n rfl rfl rfl rfl (by rw [hg4_7]; rfl)) ?_
        refine wl_s rfl (want_n rfl rfl rfl rfl (by rw [hg4_7]; rfl)) ?_
        refine wl_s rfl (want_n rfl rfl rfl rfl (by rw [hg4_7]; rfl)) ?_
        refine wl_s rfl (want_n rfl rfl rfl rfl (by rw [hg4_7]; rfl)) ?_
        refine wl_gv (want_y rfl rfl rfl rfl (by rw [hg4_2]; rfl)) (x_pickF (tmB rfl rfl) hg4_7 ev_c) ?_
        refine wl_v (x_pickF (tmB rfl rfl) hg4_2 (tmB rfl rfl)) ?_
        refine wl_nil ?_
        exact then_n ⟨_, rfl, (by repeat (first | exact agree_self | exact agree_refl | refine agree_upd rfl ?_ | refine agree_mix rfl ?_)), (by first | rfl | (first | rfl | exact congrArg Value.bool (by first | (simp; done) | (simp; omega)); done) | (first | rfl | exact congrArg Value.bool (by first | (simp; done) | (simp; omega)); rfl) | (first | rfl | exact congrArg Value.bool (by first | (simp; done) | (simp; omega)); go_num)), hS⟩
      · clear hS; intro g w hI
        obtain ⟨hs38, hS⟩ := hI
        refine fr_knowQ (d := 38) hs38 ?_; clear hs38
        refine then_n (hK6 _ _ ?_); clear hK6 K6
        refine cnd (tm rfl) (fun hc1 => ?_) (fun hc1 => ?_)
        · exfalso
          exact absurd hc1 (by decide)
        try simp only [nrm] at hc1
        refine wp_skip ?_
        refine then_n (hK5 _ _ ?_); clear hK5 K5
        refine wp_seq_k ?_; intro K8 hK8
        refine wlit ?_
        refine wl_v (x_move (tmS rfl rfl)) ?_
        refine wl_e rfl ?_; intro K hK
        refine ow_call Try.func9 rfl rfl (evs_cons (tmS rfl rfl) <| evs_nil) (hA _ A c (viewV hS.ok 5 rfl) hc) ?_
        rintro e w ⟨pa, rfl, hca, n1, n2, n3, n4, hk⟩
        refine ⟨_, rfl, ?_⟩
        replace hS := (hS.addn4 hk n1 n2 n3 n4) -- +a1,a2,a3,a4
        clear hk n1 n2 n3 n4
        refine hK _ _ ?_; clear hK K
        refine wl_v (x_move (tmT rfl rfl)) ?_
        refine wl_v (x_ext (tmT rfl rfl) rfl) ?_
        refine wl_v (x_ext (tmT rfl rfl) rfl) ?_
        refine wl_e rfl ?_; intro K hK
        refine ow_alloc hS tz_53 rfl ?_
        clear hS; intro g6_5 w hg6_5 hS
        refine hK _ _ ?_; clear hK K
        refine wl_e rfl ?_; intro K hK
        refine ow_storeA hS 0 rfl ts_53 (tmP rfl rfl) (tmA rfl rfl) rfl rfl rfl ?_
        clear hS; intro w hS
        try replace hS := St.nm (M' := [.blk _ _ [_, _, _, _, _, _, _, _, _, _, _, _, _, _, _, _, _, _, _, _, _, _, _, _, _, _, _, _, _, _, _], _, _, _, _, .blk _ _ [_, _, _, _, _, _, _, _, _, _, _, _, _, _, _, _, _, _, _, _, _, _, _, _, _, _, _, _, _, _, _], _, _, _, _, .vw _ _]) hS rfl
        refine hK _ _ ?_; clear hK K
        refine wl_v (x_assign (tmI rfl rfl)) ?_
        refine wl_nil ?_
        refine then_n (hK8 _ _ ?_); clear hK8 K8
        refine wp_seq_k ?_; intro K9 hK9
        refine wlit ?_
        refine wl_v (x_move (tmS rfl rfl)) ?_
        refine wl_v (x_fa 0 Try.underlying46 rfl rfl ts_4 (tmP rfl rfl)) ?_
        refine wl_v (x_load Try.underlying4 rfl (tmP rfl rfl) (cellB hS.ok 5 rfl rfl)) ?_
        refine wl_e rfl ?_; intro K hK
        refine ow_call Try.func6 rfl rfl (evs_cons (tmS rfl rfl) <| evs_cons (tmB rfl rfl) <| evs_nil) (hR _ A c (viewV hS.ok 10 rfl) hc) ?_
        rintro e w ⟨rfl, hk⟩
        refine ⟨_, rfl, ?_⟩
        replace hS := hS.kept hk
        clear hk
        refine hK _ _ ?_; clear hK K
        refine wl_v (x_move (tmT rfl rfl)) ?_
        refine wl_v (x_ext (tmT rfl rfl) rfl) ?_
        refine wl_v (x_ext (tmT rfl rfl) rfl) ?_
        refine wl_e rfl ?_; intro K hK
        refine ow_alloc hS tz_32 rfl ?_
        clear hS; intro g7_7 w hg7_7 hS
        refine hK _ _ ?_; clear hK K
        refine wl_e rfl ?_; intro K hK
        refine ow_storeA hS 0 rfl ts_32 (tmP rfl rfl) (tmA rfl rfl) rfl rfl rfl ?_
        clear hS; intro w hS
        try replace hS := St.nm (M' := [.blk _ _ [_, _, _, _, _, _, _, _, _, _, _], .blk _ _ [_, _, _, _, _, _, _, _, _, _, _, _, _, _, _, _, _, _, _, _, _, _, _, _, _, _, _, _, _, _, _], _, _, _, _, .blk _ _ [_, _, _, _, _, _, _, _, _, _, _, _, _, _, _, _, _, _, _, _, _, _, _, _, _, _, _, _, _, _, _], _, _, _, _, .vw _ _]) hS rfl
        refine hK _ _ ?_; clear hK K
        refine wl_v (x_assign (tmB rfl rfl)) ?_
        refine wl_nil ?_
        refine then_n (hK9 _ _ ?_); clear hK9 K9
        refine wp_seq_k ?_; intro K10 hK10
        refine wlit ?_
        refine wl_v (x_fa 12 Try.underlying53 rfl rfl ts_49 (tmP rfl rfl)) ?_
        refine wl_v (x_loadA (cs := [_, _, _, _, _, _, _, _, _, _]) Try.underlying49 rfl ts_49 (tmP rfl rfl) (rangeB hS.ok 1 rfl rfl)) ?_
        refine wl_e rfl ?_; intro K hK
        refine ow_call Try.func10 rfl rfl (evs_cons (tmA rfl rfl) <| evs_nil) (stamp_j ri.T.t1 ri.T.t2 ri.T.t3 ri.T.t4 ri.T.t5 ri.T.t6 ri.T.t7 ri.T.t8 pa.O ri.T.o.length pa.co pa.X ri.T.x.length pa.cx ri.T.o _ (viewV hS.ok 2 rfl) rfl hca hob (by omega)) ?_
        rintro e w ⟨v2, rfl, hk⟩
        refine ⟨_, rfl, ?_⟩
        rw [← hsv, ← hsh]
        replace hS := hS.kept hk
        clear hk
        refine hK _ _ ?_; clear hK K
        refine wl_v (x_move (tmT rfl rfl)) ?_
        refine wl_v (x_ext (tmT rfl rfl) rfl) ?_
        refine wl_v (x_ext (tmT rfl rfl) rfl) ?_
        refine wl_v (x_ext (tmT rfl rfl) rfl) ?_
        refine wl_v (x_assign (tmI rfl rfl)) ?_
        refine wl_v (x_assign (tmI rfl rfl)) ?_
        refine wl_v (x_assign (tmB rfl rfl)) ?_
        refine wl_nil ?_
        refine then_n (hK10 _ _ ?_); clear hK10 K10
        refine wp_seq_k ?_; intro K11 hK11
        refine wp_seq_k ?_; intro K12 hK12
        refine cutc [59, 60, 61, 62, 63, 64, 65, 66, 67, 68, 69, 70, 71, 72, 73, 74, 75, 76, 77, 78, 79, 80, 81, 82, 83, 84, 85, 86, 87, 88, 89, 90, 91, 92, 93] (fun g w => g 93 = .bool false ∧ St [] w0 [.blk g7_7 32 (quV ri.s ri.d ri.sp ri.dp ri.pr sv sh), .blk g6_5 53 (ri.V pa), .vw pa.O (ri.T.o.map u8v), .vw pa.X (ri.T.x.map u8v), .vw pa.U (ri.D.x.map u8v), .vw pa.M (ri.I.x.map u8v), .blk g3_5 46 (ri.V pb), .vw pb.O (ri.T.o.map u8v), .vw pb.X (ri.T.x.map u8v), .vw pb.U (ri.D.x.map u8v), .vw pb.M (ri.I.x.map u8v), .vw A (l.map u8v)] w) ?_ ?_
        · skip
          refine wlit ?_
          refine wl_v (x_move (tmI rfl rfl)) ?_
          refine wl_v (x_neq (tmI rfl rfl) (ev_cN 0)) ?_
          refine wl_v (x_move (tmB rfl rfl)) ?_
          refine gs_wl (tm (t := 61) rfl) (fun hg9_2 => ?_) (fun hg9_2 => ?_)
          · exfalso
            simp at hg9_2
          have hg9_2' := hg9_2; (try simp only [nrm] at hg9_2')
          refine wl_gv (want_y rfl rfl rfl rfl (by rw [hg9_2]; rfl)) (x_move (tmB rfl rfl)) ?_
          refine wl_gv (want_y rfl rfl rfl rfl (by rw [hg9_2]; rfl)) (x_not (tmB rfl rfl)) ?_
          refine wl_v (x_pickF (tmB rfl rfl) hg9_2 (tmB rfl rfl)) ?_
          refine wl_v (x_move (tmB rfl rfl)) ?_
          refine gs_wl (tm (t := 65) rfl) (fun hg9_6 => ?_) (fun hg9_6 => ?_)
          · exfalso
            simp at hg9_6
          have hg9_6' := hg9_6; (try simp only [nrm] at hg9_6')
          refine wl_gv (want_y rfl rfl rfl rfl (by rw [hg9_6]; rfl)) (x_fa 0 Try.underlying32 rfl rfl ts_29 (tmP rfl rfl)) ?_
          refine wl_gv (want_y rfl rfl rfl rfl (by rw [hg9_6]; rfl)) (x_loadA (cs := [_, _, _, _, _, _, _, _, _]) Try.underlying29 rfl ts_29 (tmP rfl rfl) (rangeB hS.ok 0 rfl rfl)) ?_
          refine wl_gv (want_y rfl rfl rfl rfl (by rw [hg9_6]; rfl)) (x_fa 3 Try.underlying46 rfl rfl ts_29 (tmP rfl rfl)) ?_
          refine wl_gv (want_y rfl rfl rfl rfl (by rw [hg9_6]; rfl)) (x_loadA (cs := [_, _, _, _, _, _, _, _, _]) Try.underlying29 rfl ts_29 (tmP rfl rfl) (rangeB hS.ok 6 rfl rfl)) ?_
          refine wl_gv (want_y rfl rfl rfl rfl (by rw [hg9_6]; rfl)) (x_Aneq (by kernel_rfl) (tmA rfl rfl) (tmA rfl rfl) (eqv_A Try.underlying29 (by kernel_rfl) (fe_cons rfl (pt_A (cs := [_, _, _]) Try.underlying26 rfl ts_26 rfl) (pt_A (cs := [_, _, _]) Try.underlying26 rfl ts_26 rfl) (eqv_A Try.underlying26 (by kernel_rfl) (fe_cons rfl (pt_1 Try.underlying4 rfl rfl) (pt_1 Try.underlying4 rfl rfl) (eqv_b Try.underlying4) <| fe_cons rfl (pt_1 Try.underlying24 rfl rfl) (pt_1 Try.underlying24 rfl rfl) (eqv_i Try.underlying24) <| fe_cons rfl (pt_1 Try.underlying24 rfl rfl) (pt_1 Try.underlying24 rfl rfl) (eqv_i Try.underlying24) <| fe_nil)) <| fe_cons rfl (pt_A (cs := [_, _, _]) Try.underlying26 rfl ts_26 rfl) (pt_A (cs := [_, _, _]) Try.underlying26 rfl ts_26 rfl) (eqv_A Try.underlying26 (by kernel_rfl) (fe_cons rfl (pt_1 Try.underlying4 rfl rfl) (pt_1 Try.underlying4 rfl rfl) (eqv_b Try.underlying4) <| fe_cons rfl (pt_1 Try.underlying24 rfl rfl) (pt_1 Try.underlying24 rfl rfl) (eqv_i Try.underlying24) <| fe_cons rfl (pt_1 Try.underlying24 rfl rfl) (pt_1 Try.underlying24 rfl rfl) (eqv_i Try.underlying24) <| fe_nil)) <| fe_cons rfl (pt_1 Try.underlying27 rfl rfl) (pt_1 Try.underlying27 rfl rfl) (eqv_i Try.underlying27) <| fe_cons rfl (pt_1 Try.underlying27 rfl rfl) (pt_1 Try.underlying27 rfl rfl) (eqv_i Try.underlying27) <| fe_cons rfl (pt_1 Try.underlying5 rfl rfl) (pt_1 Try.underlying5 rfl rfl) (eqv_i Try.underlying5) <| fe_nil))) ?_
          refine wl_v (x_pickF (tmB rfl rfl) hg9_6 (tmB rfl rfl)) ?_
          refine wl_v (x_move (tmB rfl rfl)) ?_
          refine gs_wl (tm (t := 72) rfl) (fun hg9_13 => ?_) (fun hg9_13 => ?_)
          · exfalso
            simp at hg9_13
          have hg9_13' := hg9_13; (try simp only [nrm] at hg9_13')
          refine wl_gv (want_y rfl rfl rfl rfl (by rw [hg9_13]; rfl)) (x_fa 10 Try.underlying32 rfl rfl ts_4 (tmP rfl rfl)) ?_
          refine wl_gv (want_y rfl rfl rfl rfl (by rw [hg9_13]; rfl)) (x_load Try.underlying4 rfl (tmP rfl rfl) (cellB hS.ok 0 rfl rfl)) ?_
          refine wl_gv (want_y rfl rfl rfl rfl (by rw [hg9_13]; rfl)) (x_move (tmB rfl rfl)) ?_
          refine wl_gv (want_y rfl rfl rfl rfl (by rw [hg9_13]; rfl)) (x_move (tmB rfl rfl)) ?_
          refine gs_wl (tm (t := 76) rfl) (fun hg9_17 => ?_) (fun hg9_17 => ?_)
          · have hg9_17' := hg9_17; (try simp only [nrm] at hg9_17')
            refine wl_gv (want_y rfl rfl rfl rfl (by rw [hg9_17]; rfl)) (x_fa 3 Try.underlying46 rfl rfl ts_29 (tmP rfl rfl)) ?_
            refine wl_gv (want_y rfl rfl rfl rfl (by rw [hg9_17]; rfl)) (x_fa 8 Try.underlying29 rfl rfl ts_5 (tmP rfl rfl)) ?_
            refine wl_gv (want_y rfl rfl rfl rfl (by rw [hg9_17]; rfl)) (x_load Try.underlying5 rfl (tmP rfl rfl) (cellB hS.ok 6 rfl rfl)) ?_
            refine wl_gv (want_y rfl rfl rfl rfl (by rw [hg9_17]; rfl)) (x_eql (tmI rfl rfl) (ev_cN 6)) ?_
            refine wl_gv (want_y rfl rfl rfl rfl (by rw [hg9_13]; rfl)) (x_pickT (tmB rfl rfl) hg9_17 (tmB rfl rfl)) ?_
            refine wl_gv (want_y rfl rfl rfl rfl (by rw [hg9_13]; rfl)) (x_bneq Try.underlying4 (tmB rfl rfl) (tmB rfl rfl)) ?_
            refine wl_v (x_pickF (tmB rfl rfl) hg9_13 (tmB rfl rfl)) ?_
            refine wl_v (x_move (tmB rfl rfl)) ?_
            refine gs_wl (tm (t := 84) rfl) (fun hg9_25 => ?_) (fun hg9_25 => ?_)
            · exfalso
              clear hS hA hB hP hR hPre hv
              first
                | (have h6 := hpr hg9_17'
                   simp [hg9_17', h6] at hg9_25)
                | (simp [hg9_17'] at hg9_25)
            have hg9_25' := hg9_25; (try simp only [nrm] at hg9_25')
            refine wl_gv (want_y rfl rfl rfl rfl (by rw [hg9_25]; rfl)) (x_fa 10 Try.underlying32 rfl rfl ts_4 (tmP rfl rfl)) ?_
            refine wl_gv (want_y rfl rfl rfl rfl (by rw [hg9_25]; rfl)) (x_load Try.underlying4 rfl (tmP rfl rfl) (cellB hS.ok 0 rfl rfl)) ?_
            refine wl_gv (want_y rfl rfl rfl rfl (by rw [hg9_25]; rfl)) (x_move (tmB rfl rfl)) ?_
            refine gs_wl (tm (t := 87) rfl) (fun hg9_28 => ?_) (fun hg9_28 => ?_)
            · have hg9_28' := hg9_28; (try simp only [nrm] at hg9_28')
              refine wl_gv (want_y rfl rfl rfl rfl (by rw [hg9_28]; rfl)) (x_fa 9 Try.underlying32 rfl rfl ts_30 (tmP rfl rfl)) ?_
              refine wl_gv (want_y rfl rfl rfl rfl (by rw [hg9_28]; rfl)) (x_load Try.underlying30 rfl (tmP rfl rfl) (cellB hS.ok 0 rfl rfl)) ?_
              refine wl_gv (want_y rfl rfl rfl rfl (by rw [hg9_28]; rfl)) (x_move (tmI rfl rfl)) ?_
              refine wl_gv (want_y rfl rfl rfl rfl (by rw [hg9_28]; rfl)) (x_neq (tmI rfl rfl) (tmI rfl rfl)) ?_
              refine wl_gv (want_y rfl rfl rfl rfl (by rw [hg9_25]; rfl)) (x_pickT (tmB rfl rfl) hg9_28 (tmB rfl rfl)) ?_
              refine wl_v (x_pickF (tmB rfl rfl) hg9_25 (tmB rfl rfl)) ?_
              refine wl_nil ?_
              exact then_n ⟨_, rfl, (by repeat (first | exact agree_self | exact agree_refl | refine agree_upd rfl ?_ | refine agree_mix rfl ?_)), (by first | rfl | (first | rfl | exact congrArg Value.bool (by simp); done) | (first | rfl | exact congrArg Value.bool (by simp); rfl) | (first | rfl | exact congrArg Value.bool (by simp); go_num)), hS⟩
            have hg9_28' := hg9_28; (try simp only [nrm] at hg9_28')
            refine wl_s rfl (want_n rfl rfl rfl rfl (by rw [hg9_28]; rfl)) ?_
            refine wl_s rfl (want_n rfl rfl rfl rfl (by rw [hg9_28]; rfl)) ?_
            refine wl_s rfl (want_n rfl rfl rfl rfl (by rw [hg9_28]; rfl)) ?_
            refine wl_s rfl (want_n rfl rfl rfl rfl (by rw [hg9_28]; rfl)) ?_
            refine wl_gv (want_y rfl rfl rfl rfl (by rw [hg9_25]; rfl)) (x_pickF (tmB rfl rfl) hg9_28 ev_c) ?_
            refine wl_v (x_pickF (tmB rfl rfl) hg9_25 (tmB rfl rfl)) ?_
            refine wl_nil ?_
            exact then_n ⟨_, rfl, (by repeat (first | exact agree_self | exact agree_refl | refine agree_upd rfl ?_ | refine agree_mix rfl ?_)), (by first | rfl | (first | rfl | exact congrArg Value.bool (by simp); done) | (first | rfl | exact congrArg Value.bool (by simp); rfl) | (first | rfl | exact congrArg Value.bool (by simp); go_num)), hS⟩
          have hg9_17' := hg9_17; (try simp only [nrm] at hg9_17')
          refine wl_s rfl (want_n rfl rfl rfl rfl (by rw [hg9_17]; rfl)) ?_
          refine wl_s rfl (want_n rfl rfl rfl rfl (by rw [hg9_17]; rfl)) ?_
          refine wl_s rfl (want_n rfl rfl rfl rfl (by rw [hg9_17]; rfl)) ?_
          refine wl_s rfl (want_n rfl rfl rfl rfl (by rw [hg9_17]; rfl)) ?_
          refine wl_gv (want_y rfl rfl rfl rfl (by rw [hg9_13]; rfl)) (x_pickF (tmB rfl rfl) hg9_17 ev_c) ?_
          refine wl_gv (want_y rfl rfl rfl rfl (by rw [hg9_13]; rfl)) (x_bneq Try.underlying4 (tmB rfl rfl) (tmB rfl rfl)) ?_
          refine wl_v (x_pickF (tmB rfl rfl) hg9_13 (tmB rfl rfl)) ?_
          refine wl_v (x_move (tmB rfl rfl)) ?_
          refine gs_wl (tm (t := 84) rfl) (fun hg9_25 => ?_) (fun hg9_25 => ?_)
          · exfalso
            clear hS hA hB hP hR hPre hv
            first
              | (have h6 := hpr hg9_17'
                 simp [hg9_17', h6] at hg9_25)
              | (simp [hg9_17'] at hg9_25)
          have hg9_25' := hg9_25; (try simp only [nrm] at hg9_25')
          refine wl_gv (want_y rfl rfl rfl rfl (by rw [hg9_25]; rfl)) (x_fa 10 Try.underlying32 rfl rfl ts_4 (tmP rfl rfl)) ?_
          refine wl_gv (want_y rfl rfl rfl rfl (by rw [hg9_25]; rfl)) (x_load Try.underlying4 rfl (tmP rfl rfl) (cellB hS.ok 0 rfl rfl)) ?_
          refine wl_gv (want_y rfl rfl rfl rfl (by rw [hg9_25]; rfl)) (x_move (tmB rfl rfl)) ?_
          refine gs_wl (tm (t := 87) rfl) (fun hg9_28 => ?_) (fun hg9_28 => ?_)
          · have hg9_28' := hg9_28; (try simp only [nrm] at hg9_28')
            refine wl_gv (want_y rfl rfl rfl rfl (by rw [hg9_28]; rfl)) (x_fa 9 Try.underlying32 rfl rfl ts_30 (tmP rfl rfl)) ?_
            refine wl_gv (want_y rfl rfl rfl rfl (by rw [hg9_28]; rfl)) (x_load Try.underlying30 rfl (tmP rfl rfl) (cellB hS.ok 0 rfl rfl)) ?_
            refine wl_gv (want_y rfl rfl rfl rfl (by rw [hg9_28]; rfl)) (x_move (tmI rfl rfl)) ?_
            refine wl_gv (want_y rfl rfl rfl rfl (by rw [hg9_28]; rfl)) (x_neq (tmI rfl rfl) (tmI rfl rfl)) ?_
            refine wl_gv (want_y rfl rfl rfl rfl (by rw [hg9_25]; rfl)) (x_pickT (tmB rfl rfl) hg9_28 (tmB rfl rfl)) ?_
            refine wl_v (x_pickF (tmB rfl rfl) hg9_25 (tmB rfl rfl)) ?_
            refine wl_nil ?_
            exact then_n ⟨_, rfl, (by repeat (first | exact agree_self | exact agree_refl | refine agree_upd rfl ?_ | refine agree_mix rfl ?_)), (by first | rfl | (first | rfl | exact congrArg Value.bool (by simp); done) | (first | rfl | exact congrArg Value.bool (by simp); rfl) | (first | rfl | exact congrArg Value.bool (by simp); go_num)), hS⟩
          have hg9_28' := hg9_28; (try simp only [nrm] at hg9_28')
          refine wl_s rfl (want_n rfl rfl rfl rfl (by rw [hg9_28]; rfl)) ?_
          refine wl_s rfl (want_n rfl rfl rfl rfl (by rw [hg9_28]; rfl)) ?_
          refine wl_s rfl (want_n rfl rfl rfl rfl (by rw [hg9_28]; rfl)) ?_
          refine wl_s rfl (want_n rfl rfl rfl rfl (by rw [hg9_28]; rfl)) ?_
          refine wl_gv (want_y rfl rfl rfl rfl (by rw [hg9_25]; rfl)) (x_pickF (tmB rfl rfl) hg9_28 ev_c) ?_
          refine wl_v (x_pickF (tmB rfl rfl) hg9_25 (tmB rfl rfl)) ?_
          refine wl_nil ?_
          exact then_n ⟨_, rfl, (by repeat (first | exact agree_self | exact agree_refl | refine agree_upd rfl ?_ | refine agree_mix rfl ?_)), (by first | rfl | (first | rfl | exact congrArg Value.bool (by simp); done) | (first | rfl | exact congrArg Value.bool (by simp); rfl) | (first | rfl | exact congrArg Value.bool (by simp); go_num)), hS⟩
        · clear hS; intro g w hI
          obtain ⟨hs93, hS⟩ := hI
          refine fr_knowQ (d := 93) hs93 ?_; clear hs93
          refine then_n (hK12 _ _ ?_); clear hK12 K12
          refine cnd (tm rfl) (fun hc2 => ?_) (fun hc2 => ?_)
          · exfalso
            simp at hc2
          try simp only [nrm] at hc2
          refine wp_skip ?_
          refine then_n (hK11 _ _ ?_); clear hK11 K11
          refine wp_seq_k ?_; intro K14 hK14
          replace hS := hS.cutb 11 0 m rfl hc
          rw [List.drop_zero] at hS
          refine rg_startk 0 hS mixed_ ?_
          clear hS; intro w hS
          refine rg_take 0 rfl rfl (by kernel_rfl) (by kernel_rfl) (by kernel_rfl) (want_0) (fun w hok => x_move (tmS rfl rfl)) ?_
          refine rg_take 1 rfl rfl (by kernel_rfl) (by kernel_rfl) (by kernel_rfl) (want_0) (fun w hok => x_move (tmI rfl rfl)) ?_
          refine rg_take 2 rfl rfl (by kernel_rfl) (by kernel_rfl) (by kernel_rfl) (want_0) (fun w hok => x_convN Try.underlying27 Try.underlying3 (tmI rfl rfl) (fit_i64 (by omega))) ?_
          refine rg_take 3 rfl rfl (by kernel_rfl) (by kernel_rfl) (by kernel_rfl) (want_0) (fun w hok => x_move (tmS rfl rfl)) ?_
          refine rg_take 4 rfl rfl (by kernel_rfl) (by kernel_rfl) (by kernel_rfl) (want_0) (fun w hok => x_len Try.underlying22 (tmS rfl rfl)) ?_
          refine rg_take 5 rfl rfl (by kernel_rfl) (by kernel_rfl) (by kernel_rfl) (want_0) (fun w hok => x_addN (tmI rfl rfl) (ev_cN 1) (fit_i64 (by omega))) ?_
          refine rg_take 6 rfl rfl (by kernel_rfl) (by kernel_rfl) (by kernel_rfl) (want_0) (fun w hok => (congrArg (fun q : Nat => Value.int .i64 (q : Int)) hm) ▸ x_remN (tmI rfl rfl) (tmI rfl rfl) (by omega)) ?_
          refine rg_take 7 rfl rfl (by kernel_rfl) (by kernel_rfl) (by kernel_rfl) (want_0) (fun w hok => x_sliceH Try.underlying22 ts_5 (tmS rfl rfl) (tmI rfl rfl) (by omega)) ?_
          refine rg_take 8 rfl rfl (by kernel_rfl) (by kernel_rfl) (by kernel_rfl) (want_0) (fun w hok => x_fa 0 Try.underlying46 rfl rfl ts_4 (tmP rfl rfl)) ?_
          refine rg_take 9 rfl rfl (by kernel_rfl) (by kernel_rfl) (by kernel_rfl) (want_0) (fun w hok => x_load Try.underlying4 rfl (tmP rfl rfl) (cellB hok 7 rfl rfl)) ?_
          refine rg_step2 10 14 rfl rfl (by kernel_rfl) (want_0) (want_0) (oks_drop hS 0 rfl) ?_ ?_
          · intro K hK
            refine ow_call Try.func6 rfl rfl (evs_cons (tmS rfl rfl) <| evs_cons (tmB rfl rfl) <| evs_nil) (hP.at_ hlt _ _ _ (viewV hS.ok 0 rfl) (by omega)) ?_
            rintro e w ⟨rfl, hk⟩
            refine ⟨_, rfl, ?_⟩
            replace hS := hS.kept hk
            clear hk
            refine hK _ _ ?_; clear hK K
            refine rg_take 11 rfl rfl (by kernel_rfl) (by kernel_rfl) (by kernel_rfl) (want_0) (fun w hok => x_move (tmT rfl rfl)) ?_
            refine rg_take 12 rfl rfl (by kernel_rfl) (by kernel_rfl) (by kernel_rfl) (want_0) (fun w hok => x_ext (tmT rfl rfl) rfl) ?_
            refine rg_take 13 rfl rfl (by kernel_rfl) (by kernel_rfl) (by kernel_rfl) (want_0) (fun w hok => x_ext (tmT rfl rfl) rfl) ?_
            refine rg_step 14 rfl (by kernel_rfl) (want_0) (oks_drop hS 0 rfl) ?_; intro K hK
            refine ow_alloc hS tz_32 rfl ?_
            clear hS; intro g11_14 w hg11_14 hS
            refine hK _ _ ?_; clear hK K
            refine rg_step 15 rfl (by kernel_rfl) (want_0) (oks_drop hS 1 rfl) ?_; intro K hK
            refine ow_storeA hS 0 rfl ts_32 (tmP rfl rfl) (tmA rfl rfl) rfl rfl rfl ?_
            clear hS; intro w hS
            try replace hS := St.nm (M' := [.blk _ _ [_, _, _, _, _, _, _, _, _, _, _], .vw _ _, .blk _ _ [_, _, _, _, _, _, _, _, _, _, _], .blk _ _ [_, _, _, _, _, _, _, _, _, _, _, _, _, _, _, _, _, _, _, _, _, _, _, _, _, _, _, _, _, _, _], _, _, _, _, .blk _ _ [_, _, _, _, _, _, _, _, _, _, _, _, _, _, _, _, _, _, _, _, _, _, _, _, _, _, _, _, _, _, _], _, _, _, _, .vw _ _]) hS rfl
            refine hK _ _ ?_; clear hK K
            refine rg_take 16 rfl rfl (by kernel_rfl) (by kernel_rfl) (by kernel_rfl) (want_0) (fun w hok => x_assign (tmB rfl rfl)) ?_
            refine rg_done (oks_drop hS 1 rfl) (by kernel_rfl) ?_
            refine then_n (hK14 _ _ ?_); clear hK14 K14
            refine wp_seq_k ?_; intro K15 hK15
            refine wlit ?_
            refine wl_v (x_move (tmB rfl rfl)) ?_
            refine wl_v (x_not (tmB rfl rfl)) ?_
            refine wl_v (x_move (tmB rfl rfl)) ?_
            refine gs_wl (tm (t := 110) rfl) (fun hg12_2 => ?_) (fun hg12_2 => ?_)
            · have hg12_2' := hg12_2; (try simp only [nrm] at hg12_2')
              refine wl_s rfl (want_n rfl rfl rfl rfl (by rw [hg12_2]; rfl)) ?_
              refine wl_s rfl (want_n rfl rfl rfl rfl (by rw [hg12_2]; rfl)) ?_
              refine wl_s rfl (want_n rfl rfl rfl rfl (by rw [hg12_2]; rfl)) ?_
              refine wl_s rfl (want_n rfl rfl rfl rfl (by rw [hg12_2]; rfl)) ?_
              refine wl_s rfl (want_n rfl rfl rfl rfl (by rw [hg12_2]; rfl)) ?_
              refine wl_s rfl (want_n rfl rfl rfl rfl (by rw [hg12_2]; rfl)) ?_
              refine wl_s rfl (want_u rfl rfl rfl rfl) ?_
              refine wl_s rfl (want_u rfl rfl rfl rfl) ?_
              refine wl_s rfl (want_u rfl rfl rfl rfl) ?_
              refine wl_s rfl (want_u rfl rfl rfl rfl) ?_
              refine wl_s rfl (want_u rfl rfl rfl rfl) ?_
              refine wl_s rfl (want_u rfl rfl rfl rfl) ?_
              refine wl_s rfl (want_u rfl rfl rfl rfl) ?_
              refine wl_s rfl (want_u rfl rfl rfl rfl) ?_
              refine wl_s rfl (want_u rfl rfl rfl rfl) ?_
              refine wl_s rfl (want_u rfl rfl rfl rfl) ?_
              refine wl_s rfl (want_u rfl rfl rfl rfl) ?_
              refine wl_s rfl (want_u rfl rfl rfl rfl) ?_
              refine wl_s rfl (want_u rfl rfl rfl rfl) ?_
              refine wl_s rfl (want_u rfl rfl rfl rfl) ?_
              refine wl_s rfl (want_n rfl rfl rfl rfl (by rw [hg12_2]; rfl)) ?_
              refine wl_v (x_pickT (tmB rfl rfl) hg12_2 ev_c) ?_
              refine wl_v (x_move (tmB rfl rfl)) ?_
              refine wl_g (want_y rfl rfl rfl rfl rfl) ?_; intro K hK
              refine ow_call Try.func5 rfl rfl (evs_nil) (law29_awake_c _) ?_
              rintro e w ⟨rfl, hk⟩
              refine ⟨_, rfl, ?_⟩
              replace hS := hS.kept hk
              clear hk
              refine hK _ _ ?_; clear hK K
              refine wl_v (x_pickT (tmB rfl rfl) rfl (tmB rfl rfl)) ?_
              refine wl_v (x_assign (tmB rfl rfl)) ?_
              refine wl_nil ?_
              refine then_n (hK15 _ _ ?_); clear hK15 K15
              refine wp_ret ?_
              refine ret1 rfl (.tmp rfl (show _ = Value.bool _ from rfl)) ?_
              exact ⟨rfl, hS.kp.below⟩
            have hg12_2' := hg12_2; (try simp only [nrm] at hg12_2')
            refine wl_gv (want_y rfl rfl rfl rfl (by rw [hg12_2]; rfl)) (x_fa 0 Try.underlying32 rfl rfl ts_29 (tmP rfl rfl)) ?_
            refine wl_gv (want_y rfl rfl rfl rfl (by rw [hg12_2]; rfl)) (x_loadA (cs := [_, _, _, _, _, _, _, _, _]) Try.underlying29 rfl ts_29 (tmP rfl rfl) (rangeB hS.ok 0 rfl rfl)) ?_
            refine wl_gv (want_y rfl rfl rfl rfl (by rw [hg12_2]; rfl)) (x_fa 0 Try.underlying32 rfl rfl ts_29 (tmP rfl rfl)) ?_
            refine wl_gv (want_y rfl rfl rfl rfl (by rw [hg12_2]; rfl)) (x_loadA (cs := [_, _, _, _, _, _, _, _, _]) Try.underlying29 rfl ts_29 (tmP rfl rfl) (rangeB hS.ok 2 rfl rfl)) ?_
            refine wl_gv (want_y rfl rfl rfl rfl (by rw [hg12_2]; rfl)) (x_Aeql (by kernel_rfl) (tmA rfl rfl) (tmA rfl rfl) (eqv_A Try.underlying29 (by kernel_rfl) (fe_cons rfl (pt_A (cs := [_, _, _]) Try.underlying26 rfl ts_26 rfl) (pt_A (cs := [_, _, _]) Try.underlying26 rfl ts_26 rfl) (eqv_A Try.underlying26 (by kernel_rfl) (fe_cons rfl (pt_1 Try.underlying4 rfl rfl) (pt_1 Try.underlying4 rfl rfl) (eqv_b Try.underlying4) <| fe_cons rfl (pt_1 Try.underlying24 rfl rfl) (pt_1 Try.underlying24 rfl rfl) (eqv_i Try.underlying24) <| fe_cons rfl (pt_1 Try.underlying24 rfl rfl) (pt_1 Try.underlying24 rfl rfl) (eqv_i Try.underlying24) <| fe_nil)) <| fe_cons rfl (pt_A (cs := [_, _, _]) Try.underlying26 rfl ts_26 rfl) (pt_A (cs := [_, _, _]) Try.underlying26 rfl ts_26 rfl) (eqv_A Try.underlying26 (by kernel_rfl) (fe_cons rfl (pt_1 Try.underlying4 rfl rfl) (pt_1 Try.underlying4 rfl rfl) (eqv_b Try.underlying4) <| fe_cons rfl (pt_1 Try.underlying24 rfl rfl) (pt_1 Try.underlying24 rfl rfl) (eqv_i Try.underlying24) <| fe_cons rfl (pt_1 Try.underlying24 rfl rfl) (pt_1 Try.underlying24 rfl rfl) (eqv_i Try.underlying24) <| fe_nil)) <| fe_cons rfl (pt_1 Try.underlying27 rfl rfl) (pt_1 Try.underlying27 rfl rfl) (eqv_i Try.underlying27) <| fe_cons rfl (pt_1 Try.underlying27 rfl rfl) (pt_1 Try.underlying27 rfl rfl) (eqv_i Try.underlying27) <| fe_cons rfl (pt_1 Try.underlying5 rfl rfl) (pt_1 Try.underlying5 rfl rfl) (eqv_i Try.underlying5) <| fe_nil))) ?_
            refine wl_gv (want_y rfl rfl rfl rfl (by rw [hg12_2]; rfl)) (x_move (tmB rfl rfl)) ?_
            refine gs_wls (tm (t := 116) rfl) (fun hg12_8 => ?_) (fun hg12_8 => ?_)
            · exfalso
              clear hS hA hB hP hR hPre hv
              obtain ⟨h1, h2, h3, h4, h5, h6⟩ := himp hg12_2'
              simp [h1, h2, h3, h4, h5] at hg12_8
            have hg12_8' := hg12_8; (try simp only [nrm] at hg12_8')
            refine wl_gv (want_y rfl rfl rfl rfl (by rw [hg12_8]; rfl)) (x_fa 10 Try.underlying32 rfl rfl ts_4 (tmP rfl rfl)) ?_
            refine wl_gv (want_y rfl rfl rfl rfl (by rw [hg12_8]; rfl)) (x_load Try.underlying4 rfl (tmP rfl rfl) (cellB hS.ok 0 rfl rfl)) ?_
            refine wl_gv (want_y rfl rfl rfl rfl (by rw [hg12_8]; rfl)) (x_not (tmB rfl rfl)) ?_
            refine wl_gv (want_y rfl rfl rfl rfl (by rw [hg12_8]; rfl)) (x_move (tmB rfl rfl)) ?_
            refine gs_wl (tm (t := 120) rfl) (fun hg12_12 => ?_) (fun hg12_12 => ?_)
            · have hg12_12' := hg12_12; (try simp only [nrm] at hg12_12')
              refine wl_s rfl (want_n rfl rfl rfl rfl (by rw [hg12_12]; rfl)) ?_
              refine wl_s rfl (want_n rfl rfl rfl rfl (by rw [hg12_12]; rfl)) ?_
              refine wl_s rfl (want_n rfl rfl rfl rfl (by rw [hg12_12]; rfl)) ?_
              refine wl_s rfl (want_u rfl rfl rfl rfl) ?_
              refine wl_s rfl (want_u rfl rfl rfl rfl) ?_
              refine wl_s rfl (want_u rfl rfl rfl rfl) ?_
              refine wl_s rfl (want_u rfl rfl rfl rfl) ?_
              refine wl_s rfl (want_u rfl rfl rfl rfl) ?_
              refine wl_s rfl (want_n rfl rfl rfl rfl (by rw [hg12_12]; rfl)) ?_
              refine wl_gv (want_y rfl rfl rfl rfl (by rw [hg12_8]; rfl)) (x_pickT (tmB rfl rfl) hg12_12 ev_c) ?_
              refine wl_gv (want_y rfl rfl rfl rfl (by rw [hg12_2]; rfl)) (x_pickT (tmB rfl rfl) hg12_8 (tmB rfl rfl)) ?_
              refine wl_v (x_pickF (tmB rfl rfl) hg12_2 (tmB rfl rfl)) ?_
              refine wl_v (x_move (tmB rfl rfl)) ?_
              refine wl_g (want_y rfl rfl rfl rfl rfl) ?_; intro K hK
              refine ow_call Try.func5 rfl rfl (evs_nil) (law29_awake_c _) ?_
              rintro e w ⟨rfl, hk⟩
              refine ⟨_, rfl, ?_⟩
              replace hS := hS.kept hk
              clear hk
              refine hK _ _ ?_; clear hK K
              refine wl_v (x_pickT (tmB rfl rfl) rfl (tmB rfl rfl)) ?_
              refine wl_v (x_assign (tmB rfl rfl)) ?_
              refine wl_nil ?_
              refine then_n (hK15 _ _ ?_); clear hK15 K15
              refine wp_ret ?_
              refine ret1 rfl (.tmp rfl (show _ = Value.bool _ from rfl)) ?_
              exact ⟨rfl, hS.kp.below⟩
            have hg12_12' := hg12_12; (try simp only [nrm] at hg12_12')
            refine wl_gv (want_y rfl rfl rfl rfl (by rw [hg12_12]; rfl)) (x_fa 10 Try.underlying32 rfl rfl ts_4 (tmP rfl rfl)) ?_
            refine wl_gv (want_y rfl rfl rfl rfl (by rw [hg12_12]; rfl)) (x_load Try.underlying4 rfl (tmP rfl rfl) (cellB hS.ok 2 rfl rfl)) ?_
            refine wl_gv (want_y rfl rfl rfl rfl (by rw [hg12_12]; rfl)) (x_move (tmB rfl rfl)) ?_
            refine gs_wls (tm (t := 123) rfl) (fun hg12_15 => ?_) (fun hg12_15 => ?_)
            · exfalso
              clear hS hA hB hP hR hPre hv
              obtain ⟨h1, h2, h3, h4, h5, h6⟩ := himp hg12_2'
              exact Bool.noConfusion ((h6 hg12_12').1.symm.trans hg12_15)
            have hg12_15' := hg12_15; (try simp only [nrm] at hg12_15')
            refine wl_gv (want_y rfl rfl rfl rfl (by rw [hg12_15]; rfl)) (x_fa 9 Try.underlying32 rfl rfl ts_30 (tmP rfl rfl)) ?_
            refine wl_gv (want_y rfl rfl rfl rfl (by rw [hg12_15]; rfl)) (x_load Try.underlying30 rfl (tmP rfl rfl) (cellB hS.ok 0 rfl rfl)) ?_
            refine wl_gv (want_y rfl rfl rfl rfl (by rw [hg12_15]; rfl)) (x_fa 9 Try.underlying32 rfl rfl ts_30 (tmP rfl rfl)) ?_
            refine wl_gv (want_y rfl rfl rfl rfl (by rw [hg12_15]; rfl)) (x_load Try.underlying30 rfl (tmP rfl rfl) (cellB hS.ok 2 rfl rfl)) ?_
            refine wl_gv (want_y rfl rfl rfl rfl (by rw [hg12_15]; rfl)) (x_eql (tmI rfl rfl) (tmI rfl rfl)) ?_
            refine wl_gv (want_y rfl rfl rfl rfl (by rw [hg12_12]; rfl)) (x_pickT (tmB rfl rfl) hg12_15 (tmB rfl rfl)) ?_
            refine wl_gv (want_y rfl rfl rfl rfl (by rw [hg12_8]; rfl)) (x_pickF (tmB rfl rfl) hg12_12 (tmB rfl rfl)) ?_
            refine wl_gv (want_y rfl rfl rfl rfl (by rw [hg12_2]; rfl)) (x_pickT (tmB rfl rfl) hg12_8 (tmB rfl rfl)) ?_
            refine wl_v (x_pickF (tmB rfl rfl) hg12_2 (tmB rfl rfl)) ?_
            refine wl_v (x_move (tmB rfl rfl)) ?_
            refine gs_wls (tm (t := 133) rfl) (fun hg12_25 => ?_) (fun hg12_25 => ?_)
            · exfalso
              clear hS hA hB hP hR hPre hv
              obtain ⟨h1, h2, h3, h4, h5, h6⟩ := himp hg12_2'
              rw [(h6 hg12_12').2] at hg12_25
              simp at hg12_25
            have hg12_25' := hg12_25; (try simp only [nrm] at hg12_25')
            refine wl_g (want_y rfl rfl rfl rfl (by rw [hg12_25]; rfl)) ?_; intro K hK
            refine ow_call Try.func5 rfl rfl (evs_nil) (law29_awake_c _) ?_
            rintro e w ⟨rfl, hk⟩
            refine ⟨_, rfl, ?_⟩
            replace hS := hS.kept hk
            clear hk
            refine hK _ _ ?_; clear hK K
            refine wl_v (x_pickT (tmB rfl rfl) hg12_25 (tmB rfl rfl)) ?_
            refine wl_v (x_assign (tmB rfl rfl)) ?_
            refine wl_nil ?_
            refine then_n (hK15 _ _ ?_); clear hK15 K15
            refine wp_ret ?_
            refine ret1 rfl (.tmp rfl (show _ = Value.bool _ from rfl)) ?_
            exact ⟨rfl, hS.kp.below⟩
          · intro K hK
            refine ow_alloc hS tz_32 rfl ?_
            clear hS; intro g11_14 w hg11_14 hS
            refine hK _ _ ?_; clear hK K
            refine rg_step 10 rfl (by kernel_rfl) (want_0) (oks_drop hS 1 rfl) ?_; intro K hK
            refine ow_call Try.func6 rfl rfl (evs_cons (tmS rfl rfl) <| evs_cons (tmB rfl rfl) <| evs_nil) (hP.at_ hlt _ _ _ (viewV hS.ok 1 rfl) (by omega)) ?_
            rintro e w ⟨rfl, hk⟩
            refine ⟨_, rfl, ?_⟩
            replace hS := hS.kept hk
            clear hk
            refine hK _ _ ?_; clear hK K
            refine rg_take 11 rfl rfl (by kernel_rfl) (by kernel_rfl) (by kernel_rfl) (want_0) (fun w hok => x_move (tmT rfl rfl)) ?_
            refine rg_take 12 rfl rfl (by kernel_rfl) (by kernel_rfl) (by kernel_rfl) (want_0) (fun w hok => x_ext (tmT rfl rfl) rfl) ?_
            refine rg_take 13 rfl rfl (by kernel_rfl) (by kernel_rfl) (by kernel_rfl) (want_0) (fun w hok => x_ext (tmT rfl rfl) rfl) ?_
            refine rg_step 15 rfl (by kernel_rfl) (want_0) (oks_drop hS 1 rfl) ?_; intro K hK
            refine ow_storeA hS 0 rfl ts_32 (tmP rfl rfl) (tmA rfl rfl) rfl rfl rfl ?_
            clear hS; intro w hS
            try replace hS := St.nm (M' := [.blk _ _ [_, _, _, _, _, _, _, _, _, _, _], .vw _ _, .blk _ _ [_, _, _, _, _, _, _, _, _, _, _], .blk _ _ [_, _, _, _, _, _, _, _, _, _, _, _, _, _, _, _, _, _, _, _, _, _, _, _, _, _, _, _, _, _, _], _, _, _, _, .blk _ _ [_, _, _, _, _, _, _, _, _, _, _, _, _, _, _, _, _, _, _, _, _, _, _, _, _, _, _, _, _, _, _], _, _, _, _, .vw _ _]) hS rfl
            refine hK _ _ ?_; clear hK K
            refine rg_take 16 rfl rfl (by kernel_rfl) (by kernel_rfl) (by kernel_rfl) (want_0) (fun w hok => x_assign (tmB rfl rfl)) ?_
            refine rg_done (oks_drop hS 1 rfl) (by kernel_rfl) ?_
            refine then_n (hK14 _ _ ?_); clear hK14 K14
            refine wp_seq_k ?_; intro K16 hK16
            refine wlit ?_
            refine wl_v (x_move (tmB rfl rfl)) ?_
            refine wl_v (x_not (tmB rfl rfl)) ?_
            refine wl_v (x_move (tmB rfl rfl)) ?_
            refine gs_wl (tm (t := 110) rfl) (fun hg12_2 => ?_) (fun hg12_2 => ?_)
            · have hg12_2' := hg12_2; (try simp only [nrm] at hg12_2')
              refine wl_s rfl (want_n rfl rfl rfl rfl (by rw [hg12_2]; rfl)) ?_
              refine wl_s rfl (want_n rfl rfl rfl rfl (by rw [hg12_2]; rfl)) ?_
              refine wl_s rfl (want_n rfl rfl rfl rfl (by rw [hg12_2]; rfl)) ?_
              refine wl_s rfl (want_n rfl rfl rfl rfl (by rw [hg12_2]; rfl)) ?_
              refine wl_s rfl (want_n rfl rfl rfl rfl (by rw [hg12_2]; rfl)) ?_
              refine wl_s rfl (want_n rfl rfl rfl rfl (by rw [hg12_2]; rfl)) ?_
              refine wl_s rfl (want_u rfl rfl rfl rfl) ?_
              refine wl_s rfl (want_u rfl rfl rfl rfl) ?_
              refine wl_s rfl (want_u rfl rfl rfl rfl) ?_
              refine wl_s rfl (want_u rfl rfl rfl rfl) ?_
              refine wl_s rfl (want_u rfl rfl rfl rfl) ?_
              refine wl_s rfl (want_u rfl rfl rfl rfl) ?_
              refine wl_s rfl (want_u rfl rfl rfl rfl) ?_
              refine wl_s rfl (want_u rfl rfl rfl rfl) ?_
              refine wl_s rfl (want_u rfl rfl rfl rfl) ?_
              refine wl_s rfl (want_u rfl rfl rfl rfl) ?_
              refine wl_s rfl (want_u rfl rfl rfl rfl) ?_
              refine wl_s rfl (want_u rfl rfl rfl rfl) ?_
              refine wl_s rfl (want_u rfl rfl rfl rfl) ?_
              refine wl_s rfl (want_u rfl rfl rfl rfl) ?_
              refine wl_s rfl (want_n rfl rfl rfl rfl (by rw [hg12_2]; rfl)) ?_
              refine wl_v (x_pickT (tmB rfl rfl) hg12_2 ev_c) ?_
              refine wl_v (x_move (tmB rfl rfl)) ?_
              refine wl_g (want_y rfl rfl rfl rfl rfl) ?_; intro K hK
              refine ow_call Try.func5 rfl rfl (evs_nil) (law29_awake_c _) ?_
              rintro e w ⟨rfl, hk⟩
              refine ⟨_, rfl, ?_⟩
              replace hS := hS.kept hk
              clear hk
              refine hK _ _ ?_; clear hK K
              refine wl_v (x_pickT (tmB rfl rfl) rfl (tmB rfl rfl)) ?_
              refine wl_v (x_assign (tmB rfl rfl)) ?_
              refine wl_nil ?_
              refine then_n (hK16 _ _ ?_); clear hK16 K16
              refine wp_ret ?_
              refine ret1 rfl (.tmp rfl (show _ = Value.bool _ from rfl)) ?_
              exact ⟨rfl, hS.kp.below⟩
            have hg12_2' := hg12_2; (try simp only [nrm] at hg12_2')
            refine wl_gv (want_y rfl rfl rfl rfl (by rw [hg12_2]; rfl)) (x_fa 0 Try.underlying32 rfl rfl ts_29 (tmP rfl rfl)) ?_
            refine wl_gv (want_y rfl rfl rfl rfl (by rw [hg12_2]; rfl)) (x_loadA (cs := [_, _, _, _, _, _, _, _, _]) Try.underlying29 rfl ts_29 (tmP rfl rfl) (rangeB hS.ok 0 rfl rfl)) ?_
            refine wl_gv (want_y rfl rfl rfl rfl (by rw [hg12_2]; rfl)) (x_fa 0 Try.underlying32 rfl rfl ts_29 (tmP rfl rfl)) ?_
            refine wl_gv (want_y rfl rfl rfl rfl (by rw [hg12_2]; rfl)) (x_loadA (cs := [_, _, _, _, _, _, _, _, _]) Try.underlying29 rfl ts_29 (tmP rfl rfl) (rangeB hS.ok 2 rfl rfl)) ?_
            refine wl_gv (want_y rfl rfl rfl rfl (by rw [hg12_2]; rfl)) (x_Aeql (by kernel_rfl) (tmA rfl rfl) (tmA rfl rfl) (eqv_A Try.underlying29 (by kernel_rfl) (fe_cons rfl (pt_A (cs := [_, _, _]) Try.underlying26 rfl ts_26 rfl) (pt_A (cs := [_, _, _]) Try.underlying26 rfl ts_26 rfl) (eqv_A Try.underlying26 (by kernel_rfl) (fe_cons rfl (pt_1 Try.underlying4 rfl rfl) (pt_1 Try.underlying4 rfl rfl) (eqv_b Try.underlying4) <| fe_cons rfl (pt_1 Try.underlying24 rfl rfl) (pt_1 Try.underlying24 rfl rfl) (eqv_i Try.underlying24) <| fe_cons rfl (pt_1 Try.underlying24 rfl rfl) (pt_1 Try.underlying24 rfl rfl) (eqv_i Try.underlying24) <| fe_nil)) <| fe_cons rfl (pt_A (cs := [_, _, _]) Try.underlying26 rfl ts_26 rfl) (pt_A (cs := [_, _, _]) Try.underlying26 rfl ts_26 rfl) (eqv_A Try.underlying26 (by kernel_rfl) (fe_cons rfl (pt_1 Try.underlying4 rfl rfl) (pt_1 Try.underlying4 rfl rfl) (eqv_b Try.underlying4) <| fe_cons rfl (pt_1 Try.underlying24 rfl rfl) (pt_1 Try.underlying24 rfl rfl) (eqv_i Try.underlying24) <| fe_cons rfl (pt_1 Try.underlying24 rfl rfl) (pt_1 Try.underlying24 rfl rfl) (eqv_i Try.underlying24) <| fe_nil)) <| fe_cons rfl (pt_1 Try.underlying27 rfl rfl) (pt_1 Try.underlying27 rfl rfl) (eqv_i Try.underlying27) <| fe_cons rfl (pt_1 Try.underlying27 rfl rfl) (pt_1 Try.underlying27 rfl rfl) (eqv_i Try.underlying27) <| fe_cons rfl (pt_1 Try.underlying5 rfl rfl) (pt_1 Try.underlying5 rfl rfl) (eqv_i Try.underlying5) <| fe_nil))) ?_
            refine wl_gv (want_y rfl rfl rfl rfl (by rw [hg12_2]; rfl)) (x_move (tmB rfl rfl)) ?_
            refine gs_wls (tm (t := 116) rfl) (fun hg12_8 => ?_) (fun hg12_8 => ?_)
            · exfalso
              clear hS hA hB hP hR hPre hv
              obtain ⟨h1, h2, h3, h4, h5, h6⟩ := himp hg12_2'
              simp [h1, h2, h3, h4, h5] at hg12_8
            have hg12_8' := hg12_8; (try simp only [nrm] at hg12_8')
            refine wl_gv (want_y rfl rfl rfl rfl (by rw [hg12_8]; rfl)) (x_fa 10 Try.underlying32 rfl rfl ts_4 (tmP rfl rfl)) ?_
            refine wl_gv (want_y rfl rfl rfl rfl (by rw [hg12_8]; rfl)) (x_load Try.underlying4 rfl (tmP rfl rfl) (cellB hS.ok 0 rfl rfl)) ?_
            refine wl_gv (want_y rfl rfl rfl rfl (by rw [hg12_8]; rfl)) (x_not (tmB rfl rfl)) ?_
            refine wl_gv (want_y rfl rfl rfl rfl (by rw [hg12_8]; rfl)) (x_move (tmB rfl rfl)) ?_
            refine gs_wl (tm (t := 120) rfl) (fun hg12_12 => ?_) (fun hg12_12 => ?_)
            · have hg12_12' := hg12_12; (try simp only [nrm] at hg12_12')
              refine wl_s rfl (want_n rfl rfl rfl rfl (by rw [hg12_12]; rfl)) ?_
              refine wl_s rfl (want_n rfl rfl rfl rfl (by rw [hg12_12]; rfl)) ?_
              refine wl_s rfl (want_n rfl rfl rfl rfl (by rw [hg12_12]; rfl)) ?_
              refine wl_s rfl (want_u rfl rfl rfl rfl) ?_
              refine wl_s rfl (want_u rfl rfl rfl rfl) ?_
              refine wl_s rfl (want_u rfl rfl rfl rfl) ?_
              refine wl_s rfl (want_u rfl rfl rfl rfl) ?_
              refine wl_s rfl (want_u rfl rfl rfl rfl) ?_
              refine wl_s rfl (want_n rfl rfl rfl rfl (by rw [hg12_12]; rfl)) ?_
              refine wl_gv (want_y rfl rfl rfl rfl (by rw [hg12_8]; rfl)) (x_pickT (tmB rfl rfl) hg12_12 ev_c) ?_
              refine wl_gv (want_y rfl rfl rfl rfl (by rw [hg12_2]; rfl)) (x_pickT (tmB rfl rfl) hg12_8 (tmB rfl rfl)) ?_
              refine wl_v (x_pickF (tmB rfl rfl) hg12_2 (tmB rfl rfl)) ?_
              refine wl_v (x_move (tmB rfl rfl)) ?_
              refine wl_g (want_y rfl rfl rfl rfl rfl) ?_; intro K hK
              refine ow_call Try.func5 rfl rfl (evs_nil) (law29_awake_c _) ?_
              rintro e w ⟨rfl, hk⟩
              refine ⟨_, rfl, ?_⟩
              replace hS := hS.kept hk
              clear hk
              refine hK _ _ ?_; clear hK K
              refine wl_v (x_pickT (tmB rfl rfl) rfl (tmB rfl rfl)) ?_
              refine wl_v (x_assign (tmB rfl rfl)) ?_
              refine wl_nil ?_
              refine then_n (hK16 _ _ ?_); clear hK16 K16
              refine wp_ret ?_
              refine ret1 rfl (.tmp rfl (show _ = Value.bool _ from rfl)) ?_
              exact ⟨rfl, hS.kp.below⟩
            have hg12_12' := hg12_12; (try simp only [nrm] at hg12_12')
            refine wl_gv (want_y rfl rfl rfl rfl (by rw [hg12_12]; rfl)) (x_fa 10 Try.underlying32 rfl rfl ts_4 (tmP rfl rfl)) ?_
            refine wl_gv (want_y rfl rfl rfl rfl (by rw [hg12_12]; rfl)) (x_load Try.underlying4 rfl (tmP rfl rfl) (cellB hS.ok 2 rfl rfl)) ?_
            refine wl_gv (want_y rfl rfl rfl rfl (by rw [hg12_12]; rfl)) (x_move (tmB rfl rfl)) ?_
            refine gs_wls (tm (t := 123) rfl) (fun hg12_15 => ?_) (fun hg12_15 => ?_)
            · exfalso
              clear hS hA hB hP hR hPre hv
              obtain ⟨h1, h2, h3, h4, h5, h6⟩ := himp hg12_2'
              exact Bool.noConfusion ((h6 hg12_12').1.symm.trans hg12_15)
            have hg12_15' := hg12_15; (try simp only [nrm] at hg12_15')
            refine wl_gv (want_y rfl rfl rfl rfl (by rw [hg12_15]; rfl)) (x_fa 9 Try.underlying32 rfl rfl ts_30 (tmP rfl rfl)) ?_
            refine wl_gv (want_y rfl rfl rfl rfl (by rw [hg12_15]; rfl)) (x_load Try.underlying30 rfl (tmP rfl rfl) (cellB hS.ok 0 rfl rfl)) ?_
            refine wl_gv (want_y rfl rfl rfl rfl (by rw [hg12_15]; rfl)) (x_fa 9 Try.underlying32 rfl rfl ts_30 (tmP rfl rfl)) ?_
            refine wl_gv (want_y rfl rfl rfl rfl (by rw [hg12_15]; rfl)) (x_load Try.underlying30 rfl (tmP rfl rfl) (cellB hS.ok 2 rfl rfl)) ?_
            refine wl_gv (want_y rfl rfl rfl rfl (by rw [hg12_15]; rfl)) (x_eql (tmI rfl rfl) (tmI rfl rfl)) ?_
            refine wl_gv (want_y rfl rfl rfl rfl (by rw [hg12_12]; rfl)) (x_pickT (tmB rfl rfl) hg12_15 (tmB rfl rfl)) ?_
            refine wl_gv (want_y rfl rfl rfl rfl (by rw [hg12_8]; rfl)) (x_pickF (tmB rfl rfl) hg12_12 (tmB rfl rfl)) ?_
            refine wl_gv (want_y rfl rfl rfl rfl (by rw [hg12_2]; rfl)) (x_pickT (tmB rfl rfl) hg12_8 (tmB rfl rfl)) ?_
            refine wl_v (x_pickF (tmB rfl rfl) hg12_2 (tmB rfl rfl)) ?_
            refine wl_v (x_move (tmB rfl rfl)) ?_
            refine gs_wls (tm (t := 133) rfl) (fun hg12_25 => ?_) (fun hg12_25 => ?_)
            · exfalso
              clear hS hA hB hP hR hPre hv
              obtain ⟨h1, h2, h3, h4, h5, h6⟩ := himp hg12_2'
              rw [(h6 hg12_12').2] at hg12_25
              simp at hg12_25
            have hg12_25' := hg12_25; (try simp only [nrm] at hg12_25')
            refine wl_g (want_y rfl rfl rfl rfl (by rw [hg12_25]; rfl)) ?_; intro K hK
            refine ow_call Try.func5 rfl rfl (evs_nil) (law29_awake_c _) ?_
            rintro e w ⟨rfl, hk⟩
            refine ⟨_, rfl, ?_⟩
            replace hS := hS.kept hk
            clear hk
            refine hK _ _ ?_; clear hK K
            refine wl_v (x_pickT (tmB rfl rfl) hg12_25 (tmB rfl rfl)) ?_
            refine wl_v (x_assign (tmB rfl rfl)) ?_
            refine wl_nil ?_
            refine then_n (hK16 _ _ ?_); clear hK16 K16
            refine wp_ret ?_
            refine ret1 rfl (.tmp rfl (show _ = Value.bool _ from rfl)) ?_
            exact ⟨rfl, hS.kp.below⟩
    · skip
      refine ent (n := 136) Try.func4 rfl rfl ?_
      refine wp_seq_k ?_; intro K1 hK1
      refine wlit ?_
      refine wl_v (x_assign ev_c) ?_
      refine wl_nil ?_
      refine then_n (hK1 _ _ ?_); clear hK1 K1
      refine wp_seq_k ?_; intro K2 hK2
      refine wp_seq_k ?_; intro K3 hK3
      refine wlit ?_
      refine wl_v (x_move (tmS rfl rfl)) ?_
      refine wl_v (x_len Try.underlying22 (tmS rfl rfl)) ?_
      refine wl_v (x_gtr (tmI rfl rfl) (ev_cN 3000)) ?_
      refine wl_nil ?_
      refine then_n (hK3 _ _ ?_); clear hK3 K3
      refine cnd (tm rfl) (fun hc0 => ?_) (fun hc0 => ?_)
      · exfalso
        simp at hc0
        omega
      try simp only [nrm] at hc0
      refine wp_skip ?_
      refine then_n (hK2 _ _ ?_); clear hK2 K2
      refine wp_seq_k ?_; intro K4 hK4
      refine wlit ?_
      refine wl_v (x_move (tmS rfl rfl)) ?_
      refine wl_e rfl ?_; intro K hK
      refine ow_call Try.func8 rfl rfl (evs_cons (tmS rfl rfl) <| evs_nil) (hB _ A c (viewV hS.ok 0 rfl) hc) ?_
      rintro e w ⟨pb, rfl, hcb, n1, n2, n3, n4, hk⟩
      refine ⟨_, rfl, ?_⟩
      replace hS := (hS.addn4 hk n1 n2 n3 n4) -- +b1,b2,b3,b4
      clear hk n1 n2 n3 n4
      refine hK _ _ ?_; clear hK K
      refine wl_v (x_move (tmT rfl rfl)) ?_
      refine wl_v (x_ext (tmT rfl rfl) rfl) ?_
      refine wl_v (x_ext (tmT rfl rfl) rfl) ?_
      refine wl_e rfl ?_; intro K hK
      refine ow_alloc hS tz_46 rfl ?_
      clear hS; intro g3_5 w hg3_5 hS
      refine hK _ _ ?_; clear hK K
      refine wl_e rfl ?_; intro K hK
      refine ow_storeA hS 0 rfl ts_46 (tmP rfl rfl) (tmA rfl rfl) rfl rfl rfl ?_
      clear hS; intro w hS
      try replace hS := St.nm (M' := [.blk _ _ [_, _, _, _, _, _, _, _, _, _, _, _, _, _, _, _, _, _, _, _, _, _, _, _, _, _, _, _, _, _, _], _, _, _, _, .vw _ _]) hS rfl
      refine hK _ _ ?_; clear hK K
      refine wl_v (x_assign (tmI rfl rfl)) ?_
      refine wl_nil ?_
      refine then_n (hK4 _ _ ?_); clear hK4 K4
      refine wp_seq_k ?_; intro K5 hK5
      refine wp_seq_k ?_; intro K6 hK6
      refine wlit ?_
      refine wl_v (x_move (tmI rfl rfl)) ?_
      refine wl_v (x_neq (tmI rfl rfl) (ev_cN 0)) ?_
      refine wl_v (x_move (tmB rfl rfl)) ?_
      refine gs_wl (tm (t := 27) rfl) (fun hg4_2 => ?_) (fun hg4_2 => ?_)
      · have hg4_2' := hg4_2; (try simp only [nrm] at hg4_2')
        refine wl_s rfl (want_n rfl rfl rfl rfl (by rw [hg4_2]; rfl)) ?_
        refine wl_s rfl (want_n rfl rfl rfl rfl (by rw [hg4_2]; rfl)) ?_
        refine wl_s rfl (want_n rfl rfl rfl rfl (by rw [hg4_2]; rfl)) ?_
        refine wl_s rfl (want_n rfl rfl rfl rfl (by rw [hg4_2]; rfl)) ?_
        refine wl_s rfl (want_n rfl rfl rfl rfl (by rw [hg4_2]; rfl)) ?_
        refine wl_s rfl (want_u rfl rfl rfl rfl) ?_
        refine wl_s rfl (want_u rfl rfl rfl rfl) ?_
        refine wl_s rfl (want_u rfl rfl rfl rfl) ?_
        refine wl_s rfl (want_u rfl rfl rfl rfl) ?_
        refine wl_s rfl (want_n rfl rfl rfl rfl (by rw [hg4_2]; rfl)) ?_
        refine wl_v (x_pickT (tmB rfl rfl) hg4_2 ev_c) ?_
        refine wl_nil ?_
        refine then_n (hK6 _ _ ?_); clear hK6 K6
        refine cnd_t (tmB rfl rfl) rfl ?_
        refine wp_seq_k ?_; intro K7 hK7
        refine wlit ?_
        refine wl_e rfl ?_; intro K hK
        refine ow_call Try.func5 rfl rfl (evs_nil) (law29_awake_c _) ?_
        rintro e w ⟨rfl, hk⟩
        refine ⟨_, rfl, ?_⟩
        replace hS := hS.kept hk
        clear hk
        refine hK _ _ ?_; clear hK K
        refine wl_v (x_assign (tmB rfl rfl)) ?_
        refine wl_nil ?_
        refine then_n (hK7 _ _ ?_); clear hK7 K7
        refine wp_ret ?_
        refine then_r ?_
        refine ret1 rfl (.tmp rfl (show _ = Value.bool _ from rfl)) ?_
        exact ⟨rfl, hS.kp.below⟩
      have hg4_2' := hg4_2; (try simp only [nrm] at hg4_2')
      refine wl_gv (want_y rfl rfl rfl rfl (by rw [hg4_2]; rfl)) (x_fa 3 Try.underlying46 rfl rfl ts_29 (tmP rfl rfl)) ?_
      refine wl_gv (want_y rfl rfl rfl rfl (by rw [hg4_2]; rfl)) (x_fa 8 Try.underlying29 rfl rfl ts_5 (tmP rfl rfl)) ?_
      refine wl_gv (want_y rfl rfl rfl rfl (by rw [hg4_2]; rfl)) (x_load Try.underlying5 rfl (tmP rfl rfl) (cellB hS.ok 0 rfl rfl)) ?_
      refine wl_gv (want_y rfl rfl rfl rfl (by rw [hg4_2]; rfl)) (x_neq (tmI rfl rfl) (ev_cN 6)) ?_
      refine wl_gv (want_y rfl rfl rfl rfl (by rw [hg4_2]; rfl)) (x_move (tmB rfl rfl)) ?_
      refine gs_wl (tm (t := 32) rfl) (fun hg4_7 => ?_) (fun hg4_7 => ?_)
      · have hg4_7' := hg4_7; (try simp only [nrm] at hg4_7')
        refine wl_gv (want_y rfl rfl rfl rfl (by rw [hg4_7]; rfl)) (x_fa 3 Try.underlying46 rfl rfl ts_29 (tmP rfl rfl)) ?_
        refine wl_gv (want_y rfl rfl rfl rfl (by rw [hg4_7]; rfl)) (x_fa 8 Try.underlying29 rfl rfl ts_5 (tmP rfl rfl)) ?_
        refine wl_gv (want_y rfl rfl rfl rfl (by rw [hg4_7]; rfl)) (x_load Try.underlying5 rfl (tmP rfl rfl) (cellB hS.ok 0 rfl rfl)) ?_
        refine wl_gv (want_y rfl rfl rfl rfl (by rw [hg4_7]; rfl)) (x_neq (tmI rfl rfl) (ev_cN 17)) ?_
        refine wl_gv (want_y rfl rfl rfl rfl (by rw [hg4_2]; rfl)) (x_pickT (tmB rfl rfl) hg4_7 (tmB rfl rfl)) ?_
        refine wl_v (x_pickF (tmB rfl rfl) hg4_2 (tmB rfl rfl)) ?_
        refine wl_nil ?_
        refine then_n (hK6 _ _ ?_); clear hK6 K6
        refine cnds (tm rfl) (fun hc1 => ?_) (fun hc1 => ?_)
        · exfalso
          first | omega | (simp only [nrm] at hc1; omega) | (simp at hc1; omega)
        try simp only [nrm] at hc1
        refine wp_seq_k ?_; intro K8 hK8
        refine wlit ?_
        refine wl_e rfl ?_; intro K hK
        refine ow_call Try.func5 rfl rfl (evs_nil) (law29_awake_c _) ?_
        rintro e w ⟨rfl, hk⟩
        refine ⟨_, rfl, ?_⟩
        replace hS := hS.kept hk
        clear hk
        refine hK _ _ ?_; clear hK K
        refine wl_v (x_assign (tmB rfl rfl)) ?_
        refine wl_nil ?_
        refine then_n (hK8 _ _ ?_); clear hK8 K8
        refine wp_ret ?_
        refine then_r ?_
        refine ret1 rfl (.tmp rfl (show _ = Value.bool _ from rfl)) ?_
        exact ⟨rfl, hS.kp.below⟩
      have hg4_7' := hg4_7; (try simp only [nrm] at hg4_7'); try (exfalso; first | with_reducible exact absurd hg4_7 Bool.false_ne_true | with_reducible exact absurd hg4_7.symm Bool.false_ne_true | omega | (simp at hg4_7; done))
  · skip
    refine ent (n := 136) Try.func4 rfl rfl ?_
    refine wp_seq_k ?_; intro K1 hK1
    refine wlit ?_
    refine wl_v (x_assign ev_c) ?_
    refine wl_nil ?_
    refine then_n (hK1 _ _ ?_); clear hK1 K1
    refine wp_seq_k ?_; intro K2 hK2
    refine wp_seq_k ?_; intro K3 hK3
    refine wlit ?_
    refine wl_v (x_move (tmS rfl rfl)) ?_
    refine wl_v (x_len Try.underlying22 (tmS rfl rfl)) ?_
    refine wl_v (x_gtr (tmI rfl rfl) (ev_cN 3000)) ?_
    refine wl_nil ?_
    refine then_n (hK3 _ _ ?_); clear hK3 K3
    refine cnds (tm rfl) (fun hc0 => ?_) (fun hc0 => ?_)
    · exfalso
      simp at hc0
      omega
    try simp only [nrm] at hc0
    refine wp_seq_k ?_; intro K4 hK4
    refine wlit ?_
    refine wl_e rfl ?_; intro K hK
    refine ow_call Try.func5 rfl rfl (evs_nil) (law29_awake_c _) ?_
    rintro e w ⟨rfl, hk⟩
    refine ⟨_, rfl, ?_⟩
    replace hS := hS.kept hk
    clear hk
    refine hK _ _ ?_; clear hK K
    refine wl_v (x_assign (tmB rfl rfl)) ?_
    refine wl_nil ?_
    refine then_n (hK4 _ _ ?_); clear hK4 K4
    refine wp_ret ?_
    refine then_r ?_
    refine ret1 rfl (.tmp rfl (show _ = Value.bool _ from rfl)) ?_
    exact ⟨rfl, hS.kp.below⟩
theorem walk (A : Option Addr) (n c : Nat) (l : List Nat) (z : Int) (w0 : World)
    (r1 : l.length = n ∧ (A = none → c = 0) ∧ BView w0 w0.heap.size A l ∧ n ≤ c) (hz : 0 ≤ z ∧ z < 65536) :
    Calls Try.prog 4 #[.slice A n c, .int .u16 z] w0 fun e w' => e = .returned (.bool true) ∧ Below w0.heap.size w0 w' := by
  obtain ⟨b, rfl⟩ := Int.eq_ofNat_of_zero_le hz.1
  exact walkC A n c l b w0 r1 (by omega)
end SteerWhole
end Go.Proofs.Ytcobjneobdihkaa
/- The statement SteerWhole out of its walk: for every input the law returns true and its arguments read as before. Conditions: none. -/
namespace Go.Proofs.Ytcobjneobdihkaa.SteerWhole
open Go.ChangeShapes Go.WideShapes Go.ChangeAt Go.RowKit
open Go.ChangeMaps (open_string)
set_option maxRecDepth 100000 in
theorem said : Rows.SteerWholeSaid :=
  law_saidW true true (s := Rows.steerWholeSpec) "counterfoil/counterfoillaw29.SteerWhole" 4 Try.f4 #[] (by kernel_rfl) Try.func4 (by unfold joinedFacts; rw [enter_, lifts_, make_]; kernel_rfl) (of_decide_eq_true (by kernel_rfl))
    (by unfold Func.isWrapper; first | (rw [if_pos (by decide +kernel)]; kernel_rfl) | (rw [if_neg (by decide +kernel)]; exact ⟨rfl, rfl⟩))
    (by kernel_rfl) (by kernel_rfl) (by kernel_rfl) Try.underlying4 rfl
    (fun H ds h => by rw [Try.params4] at h; match ds, h with | [_, _], _ => rfl)
    (fun os H enc => ChangeSpec.witness6 (enc := enc) (C := Try.checked) false ⟨#[], #[.slice none 0 0, .int .u16 0], []⟩ 8 (by kernel_rfl) (by kernel_rfl) (by kernel_rfl) (by kernel_rfl))
    (fun H enc W base args ds ps hval hA hlt hfz hsz => by
      rw [Try.params4] at hA hval
      obtain ⟨v0, vs0, d0, ds0, p0, q0, hargs, rfl, rfl, h0, r0_⟩ := trodAll_cons hA
      obtain ⟨v1, vs1, d1, ds1, p1, q1, rfl, rfl, rfl, h1, r1_⟩ := trodAll_cons r0_
      obtain ⟨rfl, rfl, rfl⟩ := trodAll_nil r1_
      obtain rfl : args = #[v0, v1] := by cases args; simp_all
      obtain ⟨A0, n0, c0, l0, rfl, r0⟩ := open_row (k := .u8) rfl Try.underlying22 Try.underlying5 (by kernel_rfl) (hval 0 _ v0 rfl rfl) h0 (fun x hx => hlt x (by simp [hx]))
      obtain ⟨a1, rfl, rfl, rfl, w1⟩ := open_int Try.underlying27 (hval 1 _ v1 rfl rfl) h1
      exact walk A0 n0 c0 l0 a1 W r0 (wf_u16 w1))
#print axioms said
end Go.Proofs.Ytcobjneobdihkaa.SteerWhole
