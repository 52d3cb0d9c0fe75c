
/- frag.Split, by contract. Conditions: none but bounds. -/
import Derived.Test.YtpibinkekfkafaaFrB
import Derived.Test.YtpibinkekfkafaaFrC
namespace Go.Proofs.Ytpibinkekfkafaa
open Go.ChangeShapes Go.WideShapes Go.ChangeAt Go.RowKit
set_option maxRecDepth 100000 in
set_option maxHeartbeats 4000000 in
theorem split_c (A : Option Addr) (c : Nat) (l : List Nat) (most : Int) (tos : Nat) (len : Int) (id : Nat) (stay more : Bool) (off ttl pr sum : Nat) (s d : Ad) (o x : List Nat) (er : Nat) (w0 : World)
    (hv : View w0 w0.heap.size A (l.map u8v)) (hc : l.length ≤ c) (hl : l.length ≤ 3000) (hm1 : -9223372036854775808 ≤ most ∧ most ≤ 9223372036854775807)
    (q1 : tos < 256) (q3 : id < 65536) (q7 : ttl < 256) (q8 : pr < 256) (q9 : off < 8192) (hob : Bytes o) (ho : o.length ≤ 100) (hx : x.length ≤ 3000) (her : er < 100) (hlen : er = 0 → ∃ n : Nat, len = (n : Int) ∧ n ≤ l.length)
    (hP : PartF 14 l (fun O c => hdV tos len id stay more (off : Int) ttl pr sum s d O o.length c) o x er) :
    Calls Try.prog 7 #[.slice A l.length c, .int .i64 most] w0 fun e w' => ∃ G n c' rows er', rows.length = n ∧ e = .returned (.tuple #[.slice G n c', .int .i64 ((er' : Nat) : Int)]) ∧ SplitR l most tos len id stay more off ttl pr s d o x er rows er' ∧ NewV w0 w' G (rows.map rowV) ∧ Vws w' rows ∧ Kp [] w0 w' := by
  have hS := (St.sv w0).vcons rfl hv
  refine ent (n := 46) Try.func7 rfl rfl ?_
  refine wp_seq_k ?_; intro K1 hK1
  refine wlit ?_
  refine wl_v (x_assign ev_c) ?_
  refine wl_v (x_assign (ev_cN 0)) ?_
  refine wl_nil ?_
  refine then_n (hK1 _ _ ?_); clear hK1 K1
  refine wp_seq_k ?_; intro K2 hK2
  refine wlit ?_
  refine wl_v (x_move (tmS rfl rfl)) ?_
  refine wl_e rfl ?_; intro K hK
  refine ow_call Try.func14 rfl rfl (evs_cons (tmS rfl rfl) <| evs_nil) (hP _ A c (viewV hS.ok 0 rfl) hc) ?_
  rintro e w ⟨O, co, L, k2, cl, hk2, hcl, rfl, hn, hn2, hk⟩
  refine ⟨_, rfl, ?_⟩
  have hn2' := (hn2.back hS.kp).2
  replace hS := hS.addn2 hk hn hn2 -- +vo,vx
  clear hn hn2 hk
  subst hk2
  refine hK _ _ ?_; clear hK K
  refine wl_v (x_move (tmT rfl rfl)) ?_
  refine wl_v (x_ext (tmT rfl rfl) rfl) ?_
  refine wl_v (x_ext (tmT rfl rfl) rfl) ?_
  refine wl_v (x_ext (tmT rfl rfl) rfl) ?_
  refine wl_e rfl ?_; intro K hK
  refine ow_alloc hS tz_47 rfl ?_
  clear hS; intro g1_6 w hg1_6 hS
  refine hK _ _ ?_; clear hK K
  refine wl_e rfl ?_; intro K hK
  refine ow_storeA hS 0 rfl ts_47 (tmP rfl rfl) (tmA rfl rfl) rfl rfl rfl ?_
  clear hS; intro w hS
  try replace hS := St.nm (M' := [.blk _ _ [_, _, _, _, _, _, _, _, _, _, _, _, _, _, _, _], .vw _ _, .vw _ _, .vw _ _]) hS rfl
  refine hK _ _ ?_; clear hK K
  refine wl_v (x_assign (tmS rfl rfl)) ?_
  refine wl_v (x_assign (tmI rfl rfl)) ?_
  refine wl_nil ?_
  refine then_n (hK2 _ _ ?_); clear hK2 K2
  refine wp_seq_k ?_; intro K3 hK3
  refine wp_seq_k ?_; intro K4 hK4
  refine wlit ?_
  refine wl_v (x_move (tmI rfl rfl)) ?_
  refine wl_v (x_neq (tmI rfl rfl) (ev_cN 0)) ?_
  refine wl_nil ?_
  refine then_n (hK4 _ _ ?_); clear hK4 K4
  refine cnd (tm rfl) (fun hc0 => ?_) (fun hc0 => ?_)
  · try (exfalso; first | with_reducible exact absurd hc0 Bool.false_ne_true | with_reducible exact absurd hc0.symm Bool.false_ne_true | (simp only [nrm] at hc0; omega) | (simp at hc0; done))
    all_goals
     try simp only [nrm] at hc0
     have h0 : er ≠ 0 := by first | omega | (simp at hc0; omega)
     refine wp_seq_k ?_; intro K5 hK5
     refine wlit ?_
     refine wl_v (x_move (tmI rfl rfl)) ?_
     refine wl_v (x_assign ev_c) ?_
     refine wl_v (x_assign (tmI rfl rfl)) ?_
     refine wl_nil ?_
     refine then_n (hK5 _ _ ?_); clear hK5 K5
     refine wp_ret ?_
     refine then_r ?_
     refine ret2 rfl (.tmp rfl (show _ = Value.slice _ _ _ from rfl)) (.tmp rfl (show _ = Value.int _ _ from rfl)) ?_
     first
       | exact ⟨none, 0, 0, [], er, rfl, rfl, .inl ⟨h0, rfl, rfl⟩, NewV.nil_ _ _ _, (fun r hr => by cases hr), hS.kp⟩
       | exact ⟨_, 1, _, [(A2, l.take n, c2)], 0, rfl, rfl, .inr ⟨h0, .inl ⟨hle, rfl, rfl⟩⟩, (by
           have hl1 : (l.take n).length = n := by rw [List.length_take]; omega
           have h1 := viewB hS.ok (no_label_g5_5) rfl
           show NewV _ _ _ [.slice A2 (l.take n).length c2]
           rw [hl1]
           exact ⟨h1, fun g hg => (hS.new (no_label_g5_5) rfl rfl).2.2 g hg⟩), (fun r hr => by
           obtain rfl := List.mem_singleton.1 hr
           exact viewV hS.ok (no_label_vq) rfl), hS.kp⟩
       | exact ⟨none, 0, 0, [], 30, rfl, rfl, .inr ⟨h0, .inr ⟨hgt, .inl ⟨hst, rfl, rfl⟩⟩⟩, NewV.nil_ _ _ _, (fun r hr => by cases hr), hS.kp⟩
       | exact ⟨none, 0, 0, [], 1, rfl, rfl, .inr ⟨h0, .inr ⟨hgt, .inr ⟨hst, .inl ⟨hlt, rfl, rfl⟩⟩⟩⟩, NewV.nil_ _ _ _, (fun r hr => by cases hr), hS.kp⟩
       | exact ⟨G, ng, cg, rows, e4, hng, rfl, .inr ⟨h0, .inr ⟨hgt, .inr ⟨hst, .inr ⟨hge, hR⟩⟩⟩⟩, hnG', hvr, hS.kp⟩
  try (exfalso; first | with_reducible exact absurd hc0 Bool.false_ne_true | with_reducible exact absurd hc0.symm Bool.false_ne_true | (simp only [nrm] at hc0; omega) | (simp at hc0; done))
  all_goals
   try simp only [nrm] at hc0
   have h0 : er = 0 := by first | omega | (simp at hc0; omega)
   obtain ⟨n, rfl, hnl⟩ := hlen h0
   refine wp_skip ?_
   refine then_n (hK3 _ _ ?_); clear hK3 K3
   refine wp_seq_k ?_; intro K6 hK6
   refine wp_seq_k ?_; intro K7 hK7
   refine wlit ?_
   refine wl_v (x_fa 1 Try.underlying47 rfl rfl ts_3 (tmP rfl rfl)) ?_
   first
    | refine wl_v (x_load Try.underlying3 rfl (tmP rfl rfl) (cellB hS.ok 0 rfl rfl)) ?_
    | refine wl_v (x_load Try.underlying3 rfl (tmP rfl rfl) (cellB hS.ok 0 rfl (getm (by omega)))) ?_
   refine wl_v (x_move (tmI rfl rfl)) ?_
   refine wl_v (x_leq (tmI rfl rfl) (tmI rfl rfl)) ?_
   refine wl_nil ?_
   refine then_n (hK7 _ _ ?_); clear hK7 K7
   refine cnd (tm rfl) (fun hc1 => ?_) (fun hc1 => ?_)
   · try (exfalso; first | with_reducible exact absurd hc1 Bool.false_ne_true | with_reducible exact absurd hc1.symm Bool.false_ne_true | (simp only [nrm] at hc1; omega) | (simp at hc1; done))
     all_goals
      try simp only [nrm] at hc1
      have hle : (n : Int) ≤ most := by first | omega | (simp at hc1; omega)
      refine wp_seq_k ?_; intro K8 hK8
      refine wlit ?_
      refine wl_v (x_move (tmS rfl rfl)) ?_
      refine wl_v (x_fa 1 Try.underlying47 rfl rfl ts_3 (tmP rfl rfl)) ?_
      first
       | refine wl_v (x_load Try.underlying3 rfl (tmP rfl rfl) (cellB hS.ok 0 rfl rfl)) ?_
       | refine wl_v (x_load Try.underlying3 rfl (tmP rfl rfl) (cellB hS.ok 0 rfl (getm (by omega)))) ?_
      refine wl_v (x_sliceH Try.underlying22 ts_5 (tmS rfl rfl) (tmI rfl rfl) (by omega)) ?_
      refine wl_e rfl ?_; intro K hK
      refine ow_call Try.func15 rfl rfl (evs_cons (tmS rfl rfl) <| evs_nil) (clone_c n _ _ (l.take n) _ (by rw [List.map_take]; exact (viewV hS.ok 3 rfl).cutA (by rw [List.length_map]; exact hc) 0 n) (by rw [List.length_take]; omega) (by omega)) ?_
      rintro e w ⟨A2, c2, rfl, hn, hk⟩
      refine ⟨_, rfl, ?_⟩
      replace hS := hS.addn hk (New.view hn) -- +vq
      clear hn hk
      refine hK _ _ ?_; clear hK K
      refine wl_e rfl ?_; intro K hK
      refine ow_build hS Try.underlying24 tz_22 (bc_take (tmS rfl rfl) <| bc_nil) rfl rfl (by kernel_rfl) ?_
      clear hS; intro g5_5 w hg5_5 hS
      refine hK _ _ ?_; clear hK K
      refine wl_v (x_assign (tmS rfl rfl)) ?_
      refine wl_v (x_assign (ev_cN 0)) ?_
      refine wl_nil ?_
      refine then_n (hK8 _ _ ?_); clear hK8 K8
      refine wp_ret ?_
      refine then_r ?_
      refine ret2 rfl (.tmp rfl (show _ = Value.slice _ _ _ from rfl)) (.tmp rfl (show _ = Value.int _ _ from rfl)) ?_
      first
        | exact ⟨none, 0, 0, [], er, rfl, rfl, .inl ⟨h0, rfl, rfl⟩, NewV.nil_ _ _ _, (fun r hr => by cases hr), hS.kp⟩
        | exact ⟨_, 1, _, [(A2, l.take n, c2)], 0, rfl, rfl, .inr ⟨h0, .inl ⟨hle, rfl, rfl⟩⟩, (by
            have hl1 : (l.take n).length = n := by rw [List.length_take]; omega
            have h1 := viewB hS.ok 0 rfl
            show NewV _ _ _ [.slice A2 (l.take n).length c2]
            rw [hl1]
            exact ⟨h1, fun g hg => (hS.new 0 rfl rfl).2.2 g hg⟩), (fun r hr => by
            obtain rfl := List.mem_singleton.1 hr
            exact viewV hS.ok 1 rfl), hS.kp⟩
        | exact ⟨none, 0, 0, [], 30, rfl, rfl, .inr ⟨h0, .inr ⟨hgt, .inl ⟨hst, rfl, rfl⟩⟩⟩, NewV.nil_ _ _ _, (fun r hr => by cases hr), hS.kp⟩
        | exact ⟨none, 0, 0, [], 1, rfl, rfl, .inr ⟨h0, .inr ⟨hgt, .inr ⟨hst, .inl ⟨hlt, rfl, rfl⟩⟩⟩⟩, NewV.nil_ _ _ _, (fun r hr => by cases hr), hS.kp⟩
        | exact ⟨G, ng, cg, rows, e4, hng, rfl, .inr ⟨h0, .inr ⟨hgt, .inr ⟨hst, .inr ⟨hge, hR⟩⟩⟩⟩, hnG', hvr, hS.kp⟩
   try (exfalso; first | with_reducible exact absurd hc1 Bool.false_ne_true | with_reducible exact absurd hc1.symm Bool.false_ne_true | (simp only [nrm] at hc1; omega) | (simp at hc1; done))
   all_goals
    try simp only [nrm] at hc1
    have hgt : most < (n : Int) := by first | omega | (simp at hc1; omega)
    refine wp_skip ?_
    refine then_n (hK6 _ _ ?_); clear hK6 K6
    refine wp_seq_k ?_; intro K9 hK9
    refine wp_seq_k ?_; intro K10 hK10
    refine wlit ?_
    refine wl_v (x_fa 3 Try.underlying47 rfl rfl ts_4 (tmP rfl rfl)) ?_
    first
     | refine wl_v (x_load Try.underlying4 rfl (tmP rfl rfl) (cellB hS.ok 0 rfl rfl)) ?_
     | refine wl_v (x_load Try.underlying4 rfl (tmP rfl rfl) (cellB hS.ok 0 rfl (getm (by omega)))) ?_
    refine wl_nil ?_
    refine then_n (hK10 _ _ ?_); clear hK10 K10
    refine cnd (tm rfl) (fun hc2 => ?_) (fun hc2 => ?_)
    · try (exfalso; first | with_reducible exact absurd hc2 Bool.false_ne_true | with_reducible exact absurd hc2.symm Bool.false_ne_true | (simp only [nrm] at hc2; omega) | (simp at hc2; done))
      all_goals
       try simp only [nrm] at hc2
       have hst : stay = true := by first | exact hc2 | simpa using hc2
       refine wp_seq_k ?_; intro K11 hK11
       refine wlit ?_
       refine wl_v (x_assign ev_c) ?_
       refine wl_v (x_assign (ev_cN 30)) ?_
       refine wl_nil ?_
       refine then_n (hK11 _ _ ?_); clear hK11 K11
       refine wp_ret ?_
       refine then_r ?_
       refine ret2 rfl (.tmp rfl (show _ = Value.slice _ _ _ from rfl)) (.tmp rfl (show _ = Value.int _ _ from rfl)) ?_
       first
         | exact ⟨none, 0, 0, [], er, rfl, rfl, .inl ⟨h0, rfl, rfl⟩, NewV.nil_ _ _ _, (fun r hr => by cases hr), hS.kp⟩
         | exact ⟨_, 1, _, [(A2, l.take n, c2)], 0, rfl, rfl, .inr ⟨h0, .inl ⟨hle, rfl, rfl⟩⟩, (by
             have hl1 : (l.take n).length = n := by rw [List.length_take]; omega
             have h1 := viewB hS.ok (no_label_g5_5) rfl
             show NewV _ _ _ [.slice A2 (l.take n).length c2]
             rw [hl1]
             exact ⟨h1, fun g hg => (hS.new (no_label_g5_5) rfl rfl).2.2 g hg⟩), (fun r hr => by
             obtain rfl := List.mem_singleton.1 hr
             exact viewV hS.ok (no_label_vq) rfl), hS.kp⟩
         | exact ⟨none, 0, 0, [], 30, rfl, rfl, .inr ⟨h0, .inr ⟨hgt, .inl ⟨hst, rfl, rfl⟩⟩⟩, NewV.nil_ _ _ _, (fun r hr => by cases hr), hS.kp⟩
         | exact ⟨none, 0, 0, [], 1, rfl, rfl, .inr ⟨h0, .inr ⟨hgt, .inr ⟨hst, .inl ⟨hlt, rfl, rfl⟩⟩⟩⟩, NewV.nil_ _ _ _, (fun r hr => by cases hr), hS.kp⟩
         | exact ⟨G, ng, cg, rows, e4, hng, rfl, .inr ⟨h0, .inr ⟨hgt, .inr ⟨hst, .inr ⟨hge, hR⟩⟩⟩⟩, hnG', hvr, hS.kp⟩
    try (exfalso; first | with_reducible exact absurd hc2 Bool.false_ne_true | with_reducible exact absurd hc2.symm Bool.false_ne_true | (simp only [nrm] at hc2; omega) | (simp at hc2; done))
    all_goals
     try simp only [nrm] at hc2
     have hst : stay = false := by first | exact hc2 | simpa using hc2
     refine wp_skip ?_
     refine then_n (hK9 _ _ ?_); clear hK9 K9
     refine wp_seq_k ?_; intro K12 hK12
     refine wp_seq_k ?_; intro K13 hK13
     refine wlit ?_
     refine wl_v (x_move (tmI rfl rfl)) ?_
     refine wl_v (x_loadA (cs := [_, _, _, _, _, _, _, _, _, _, _, _, _, _, _, _]) Try.underlying47 rfl ts_47 (tmP rfl rfl) (rangeB hS.ok 0 rfl rfl)) ?_
     refine wl_e rfl ?_; intro K hK
     refine ow_call Try.func16 rfl rfl (evs_cons (tmA rfl rfl) <| evs_nil) (ip4_size_c tos (n : Int) id stay more (off : Int) ttl pr sum s d O o.length co _ (by omega)) ?_
     rintro e w ⟨rfl, hk⟩
     refine ⟨_, rfl, ?_⟩
     replace hS := hS.kept hk
     clear hk
     refine hK _ _ ?_; clear hK K
     first
      | refine wl_v (x_addN (tmI rfl rfl) (ev_cN 8) (fit_i64 (by omega))) ?_
      | refine wl_v (x_addI (tmI rfl rfl) (ev_cN 8) (IntWalk.i64_in _ (by omega))) ?_
      | refine wl_v (x_add (tmI rfl rfl) (ev_cN 8)) ?_
     refine wl_v (x_lss (tmI rfl rfl) (tmI rfl rfl)) ?_
     refine wl_nil ?_
     refine then_n (hK13 _ _ ?_); clear hK13 K13
     refine cnd (tm rfl) (fun hc3 => ?_) (fun hc3 => ?_)
     · try (exfalso; first | with_reducible exact absurd hc3 Bool.false_ne_true | with_reducible exact absurd hc3.symm Bool.false_ne_true | (simp only [nrm] at hc3; omega) | (simp at hc3; done))
       all_goals
        try simp only [nrm] at hc3
        have hlt : most < ((20 + o.length + 8 : Nat) : Int) := by first | omega | (simp at hc3; omega)
        refine wp_seq_k ?_; intro K14 hK14
        refine wlit ?_
        refine wl_v (x_assign ev_c) ?_
        refine wl_v (x_assign (ev_cN 1)) ?_
        refine wl_nil ?_
        refine then_n (hK14 _ _ ?_); clear hK14 K14
        refine wp_ret ?_
        refine then_r ?_
        refine ret2 rfl (.tmp rfl (show _ = Value.slice _ _ _ from rfl)) (.tmp rfl (show _ = Value.int _ _ from rfl)) ?_
        first
          | exact ⟨none, 0, 0, [], er, rfl, rfl, .inl ⟨h0, rfl, rfl⟩, NewV.nil_ _ _ _, (fun r hr => by cases hr), hS.kp⟩
          | exact ⟨_, 1, _, [(A2, l.take n, c2)], 0, rfl, rfl, .inr ⟨h0, .inl ⟨hle, rfl, rfl⟩⟩, (by
              have hl1 : (l.take n).length = n := by rw [List.length_take]; omega
              have h1 := viewB hS.ok (no_label_g5_5) rfl
              show NewV _ _ _ [.slice A2 (l.take n).length c2]
              rw [hl1]
              exact ⟨h1, fun g hg => (hS.new (no_label_g5_5) rfl rfl).2.2 g hg⟩), (fun r hr => by
              obtain rfl := List.mem_singleton.1 hr
              exact viewV hS.ok (no_label_vq) rfl), hS.kp⟩
          | exact ⟨none, 0, 0, [], 30, rfl, rfl, .inr ⟨h0, .inr ⟨hgt, .inl ⟨hst, rfl, rfl⟩⟩⟩, NewV.nil_ _ _ _, (fun r hr => by cases hr), hS.kp⟩
          | exact ⟨none, 0, 0, [], 1, rfl, rfl, .inr ⟨h0, .inr ⟨hgt, .inr ⟨hst, .inl ⟨hlt, rfl, rfl⟩⟩⟩⟩, NewV.nil_ _ _ _, (fun r hr => by cases hr), hS.kp⟩
          | exact ⟨G, ng, cg, rows, e4, hng, rfl, .inr ⟨h0, .inr ⟨hgt, .inr ⟨hst, .inr ⟨hge, hR⟩⟩⟩⟩, hnG', hvr, hS.kp⟩
     try (exfalso; first | with_reducible exact absurd hc3 Bool.false_ne_true | with_reducible exact absurd hc3.symm Bool.false_ne_true | (simp only [nrm] at hc3; omega) | (simp at hc3; done))
     all_goals
      try simp only [nrm] at hc3
      have hge : ((20 + o.length + 8 : Nat) : Int) ≤ most := by first | omega | (simp at hc3; omega)
      obtain ⟨M, rfl⟩ := Int.eq_ofNat_of_zero_le (a := most) (by omega)
      have hcx := (cutP_ex tos (n : Int) id stay more off ttl pr sum s d o x ((M - (20 + o.length)) / 8) q1 q3 q7 q8 hob ho hx).1
      refine wp_skip ?_
      refine then_n (hK12 _ _ ?_); clear hK12 K12
      refine wp_seq_k ?_; intro K15 hK15
      refine rg_startk 0 hS mixed_ ?_
      clear hS; intro w hS
      refine rg_take 0 rfl rfl (by kernel_rfl) (by kernel_rfl) (by kernel_rfl) (want_0) (fun w hok => x_loadA (cs := [_, _, _, _, _, _, _, _, _, _, _, _, _, _, _, _]) Try.underlying47 rfl ts_47 (tmP rfl rfl) (rangeB hok 0 rfl rfl)) ?_
      refine rg_take 1 rfl rfl (by kernel_rfl) (by kernel_rfl) (by kernel_rfl) (want_0) (fun w hok => x_move (tmS rfl rfl)) ?_
      refine rg_take 2 rfl rfl (by kernel_rfl) (by kernel_rfl) (by kernel_rfl) (want_0) (fun w hok => x_move (tmI rfl rfl)) ?_
      refine rg_take 3 rfl rfl (by kernel_rfl) (by kernel_rfl) (by kernel_rfl) (want_0) (fun w hok => x_loadA (cs := [_, _, _, _, _, _, _, _, _, _, _, _, _, _, _, _]) Try.underlying47 rfl ts_47 (tmP rfl rfl) (rangeB hok 0 rfl rfl)) ?_
      refine rg_step 4 rfl (by kernel_rfl) (want_0) (oks_drop hS 0 rfl) ?_; intro K hK
      refine ow_call Try.func16 rfl rfl (evs_cons (tmA rfl rfl) <| evs_nil) (ip4_size_c tos (n : Int) id stay more (off : Int) ttl pr sum s d O o.length co _ (by omega)) ?_
      rintro e w ⟨rfl, hk⟩
      refine ⟨_, rfl, ?_⟩
      replace hS := hS.kept hk
      clear hk
      refine hK _ _ ?_; clear hK K
      refine rg_take 5 rfl rfl (by kernel_rfl) (by kernel_rfl) (by kernel_rfl) (want_0) (fun w hok => x_subN (tmI rfl rfl) (tmI rfl rfl) (fit_i64 (by omega)) (by omega)) ?_
      first
       | refine rg_take 6 rfl rfl (by kernel_rfl) (by kernel_rfl) (by kernel_rfl) (want_0) (fun w hok => x_quoN (tmI rfl rfl) (ev_cN 8) (by omega) (fit_i64 (by omega))) ?_
       | refine rg_take 6 rfl rfl (by kernel_rfl) (by kernel_rfl) (by kernel_rfl) (want_0) (fun w hok => x_quo (tmI rfl rfl) (ev_cN 8) (by omega)) ?_
      first
       | refine rg_take 7 rfl rfl (by kernel_rfl) (by kernel_rfl) (by kernel_rfl) (want_0) (fun w hok => x_mulN (tmI rfl rfl) (ev_cN 8) (fit_i64 (by omega))) ?_
       | refine rg_take 7 rfl rfl (by kernel_rfl) (by kernel_rfl) (by kernel_rfl) (want_0) (fun w hok => x_mulI (tmI rfl rfl) (ev_cN 8) (IntWalk.i64_in _ (by omega))) ?_
       | refine rg_take 7 rfl rfl (by kernel_rfl) (by kernel_rfl) (by kernel_rfl) (want_0) (fun w hok => x_mul (tmI rfl rfl) (ev_cN 8)) ?_
      refine rg_step 8 rfl (by kernel_rfl) (want_0) (oks_drop hS 0 rfl) ?_; intro K hK
      refine ow_call Try.func17 rfl rfl (evs_cons (tmA rfl rfl) <| evs_cons (tmS rfl rfl) <| evs_cons (tmI rfl rfl) <| evs_nil) (cut_c tos (n : Int) id stay more off ttl pr sum s d O co o L cl x ((M - (20 + o.length)) / 8) _ (Nat.mul_comm _ _) _ _ _ (viewV hS.ok 1 rfl) (viewV hS.ok 2 rfl) (by omega) hcl (by omega) (by omega) (by omega) hcx) ?_
      rintro e w ⟨G, ng, cg, rows, e4, hng, rfl, hR, hnG, hnr, hk⟩
      refine ⟨_, rfl, ?_⟩
      have hvr : Vws _ rows := fun r hr => (hnr r hr).1
      have hnG' := hnG.back hS.kp
      replace hS := hS.addn hk hnG -- +vg
      clear hk hnG
      refine hK _ _ ?_; clear hK K
      refine rg_take 9 rfl rfl (by kernel_rfl) (by kernel_rfl) (by kernel_rfl) (want_0) (fun w hok => x_ext (tmT rfl rfl) rfl) ?_
      refine rg_take 10 rfl rfl (by kernel_rfl) (by kernel_rfl) (by kernel_rfl) (want_0) (fun w hok => x_ext (tmT rfl rfl) rfl) ?_
      refine rg_take 11 rfl rfl (by kernel_rfl) (by kernel_rfl) (by kernel_rfl) (want_0) (fun w hok => x_assign (tmS rfl rfl)) ?_
      refine rg_take 12 rfl rfl (by kernel_rfl) (by kernel_rfl) (by kernel_rfl) (want_0) (fun w hok => x_assign (tmI rfl rfl)) ?_
      refine rg_done (oks_drop hS 1 rfl) (by kernel_rfl) ?_
      refine then_n (hK15 _ _ ?_); clear hK15 K15
      refine wp_ret ?_
      refine ret2 rfl (.tmp rfl (show _ = Value.slice _ _ _ from rfl)) (.tmp rfl (show _ = Value.int _ _ from rfl)) ?_
      first
        | exact ⟨none, 0, 0, [], er, rfl, rfl, .inl ⟨h0, rfl, rfl⟩, NewV.nil_ _ _ _, (fun r hr => by cases hr), hS.kp⟩
        | exact ⟨_, 1, _, [(A2, l.take n, c2)], 0, rfl, rfl, .inr ⟨h0, .inl ⟨hle, rfl, rfl⟩⟩, (by
            have hl1 : (l.take n).length = n := by rw [List.length_take]; omega
            have h1 := viewB hS.ok (no_label_g5_5) rfl
            show NewV _ _ _ [.slice A2 (l.take n).length c2]
            rw [hl1]
            exact ⟨h1, fun g hg => (hS.new (no_label_g5_5) rfl rfl).2.2 g hg⟩), (fun r hr => by
            obtain rfl := List.mem_singleton.1 hr
            exact viewV hS.ok (no_label_vq) rfl), hS.kp⟩
        | exact ⟨none, 0, 0, [], 30, rfl, rfl, .inr ⟨h0, .inr ⟨hgt, .inl ⟨hst, rfl, rfl⟩⟩⟩, NewV.nil_ _ _ _, (fun r hr => by cases hr), hS.kp⟩
        | exact ⟨none, 0, 0, [], 1, rfl, rfl, .inr ⟨h0, .inr ⟨hgt, .inr ⟨hst, .inl ⟨hlt, rfl, rfl⟩⟩⟩⟩, NewV.nil_ _ _ _, (fun r hr => by cases hr), hS.kp⟩
        | exact ⟨G, ng, cg, rows, e4, hng, rfl, .inr ⟨h0, .inr ⟨hgt, .inr ⟨hst, .inr ⟨hge, hR⟩⟩⟩⟩, hnG', hvr, hS.kp⟩
end Go.Proofs.Ytpibinkekfkafaa
