
/- the reference's Split, by contract. Conditions: none but bounds. -/
import Derived.Test.YtpibinkekfkafaaFrB
import Derived.Test.YtpibinkekfkafaaFrC
namespace Go.Proofs.Ytpibinkekfkafaa
open Go.ChangeShapes Go.WideShapes Go.ChangeAt Go.RowKit
set_option maxRecDepth 100000 in
set_option maxHeartbeats 4000000 in
theorem rsplit_c (A : Option Addr) (c : Nat) (l : List Nat) (most : Int) (tos : Nat) (len : Int) (id : Nat) (stay more : Bool) (off ttl pr sum : Nat) (s d : Ad) (o x : List Nat) (er : Nat) (w0 : World)
    (hv : View w0 w0.heap.size A (l.map u8v)) (hc : l.length ≤ c) (hl : l.length ≤ 3000) (hm1 : -9223372036854775808 ≤ most ∧ most ≤ 9223372036854775807)
    (q1 : tos < 256) (q3 : id < 65536) (q7 : ttl < 256) (q8 : pr < 256) (q9 : off < 8192) (hob : Bytes o) (ho : o.length ≤ 100) (hx : x.length ≤ 3000) (her : er < 100) (hlen : er = 0 → ∃ n : Nat, len = (n : Int) ∧ n ≤ l.length)
    (hP : PartF 11 l (fun O c => hdV tos len id stay more (off : Int) ttl pr sum s d O o.length c) o x er) :
    Calls Try.prog 8 #[.slice A l.length c, .int .i64 most] w0 fun e w' => ∃ G n c' rows er', rows.length = n ∧ e = .returned (.tuple #[.slice G n c', .int .i64 ((er' : Nat) : Int)]) ∧ SplitR l most tos len id stay more off ttl pr s d o x er rows er' ∧ NewV w0 w' G (rows.map rowV) ∧ Vws w' rows ∧ Kp [] w0 w' := by
  have hS := (St.sv w0).vcons rfl hv
  refine ent (n := 96) Try.func8 rfl rfl ?_
  refine wp_seq_k ?_; intro K1 hK1
  refine wlit ?_
  refine wl_v (x_assign ev_c) ?_
  refine wl_v (x_assign (ev_cN 0)) ?_
  refine wl_nil ?_
  refine then_n (hK1 _ _ ?_); clear hK1 K1
  refine wp_seq_k ?_; intro K2 hK2
  refine wlit ?_
  refine wl_v (x_move (tmS rfl rfl)) ?_
  refine wl_e rfl ?_; intro K hK
  refine ow_call Try.func11 rfl rfl (evs_cons (tmS rfl rfl) <| evs_nil) (hP _ A c (viewV hS.ok 0 rfl) hc) ?_
  rintro e w ⟨O, co, L, k2, cl, hk2, hcl, rfl, hn, hn2, hk⟩
  refine ⟨_, rfl, ?_⟩
  replace hS := hS.addn2 hk hn hn2 -- +vo,vx
  clear hn hn2 hk
  subst hk2
  refine hK _ _ ?_; clear hK K
  refine wl_v (x_move (tmT rfl rfl)) ?_
  refine wl_v (x_ext (tmT rfl rfl) rfl) ?_
  refine wl_v (x_ext (tmT rfl rfl) rfl) ?_
  refine wl_v (x_ext (tmT rfl rfl) rfl) ?_
  refine wl_e rfl ?_; intro K hK
  refine ow_alloc hS tz_41 rfl ?_
  clear hS; intro g1_6 w hg1_6 hS
  refine hK _ _ ?_; clear hK K
  refine wl_e rfl ?_; intro K hK
  refine ow_storeA hS 0 rfl ts_41 (tmP rfl rfl) (tmA rfl rfl) rfl rfl rfl ?_
  clear hS; intro w hS
  try replace hS := St.nm (M' := [.blk _ _ [_, _, _, _, _, _, _, _, _, _, _, _, _, _, _, _], .vw _ _, .vw _ _, .vw _ _]) hS rfl
  refine hK _ _ ?_; clear hK K
  refine wl_v (x_assign (tmS rfl rfl)) ?_
  refine wl_v (x_assign (tmI rfl rfl)) ?_
  refine wl_nil ?_
  refine then_n (hK2 _ _ ?_); clear hK2 K2
  refine wp_seq_k ?_; intro K3 hK3
  refine wp_seq_k ?_; intro K4 hK4
  refine wlit ?_
  refine wl_v (x_move (tmI rfl rfl)) ?_
  refine wl_v (x_neq (tmI rfl rfl) (ev_cN 0)) ?_
  refine wl_nil ?_
  refine then_n (hK4 _ _ ?_); clear hK4 K4
  refine cnd (tm rfl) (fun hc0 => ?_) (fun hc0 => ?_)
  · try (exfalso; first | with_reducible exact absurd hc0 Bool.false_ne_true | with_reducible exact absurd hc0.symm Bool.false_ne_true | (simp only [nrm] at hc0; omega) | (simp at hc0; done))
    all_goals
     try simp only [nrm] at hc0
     have h0 : er ≠ 0 := by first | omega | (simp at hc0; omega)
     refine wp_seq_k ?_; intro K5 hK5
     refine wlit ?_
     refine wl_v (x_move (tmI rfl rfl)) ?_
     refine wl_v (x_assign ev_c) ?_
     refine wl_v (x_assign (tmI rfl rfl)) ?_
     refine wl_nil ?_
     refine then_n (hK5 _ _ ?_); clear hK5 K5
     refine wp_ret ?_
     refine then_r ?_
     refine ret2 rfl (.tmp rfl (show _ = Value.slice _ _ _ from rfl)) (.tmp rfl (show _ = Value.int _ _ from rfl)) ?_
     first
       | exact ⟨none, 0, 0, [], er, rfl, rfl, .inl ⟨h0, rfl, rfl⟩, NewV.nil_ _ _ _, (fun r hr => by cases hr), hS.kp⟩
       | exact ⟨_, 1, _, [(cutA A 0 c 1, l.take n, c)], 0, rfl, rfl, .inr ⟨h0, .inl ⟨hle, rfl, rfl⟩⟩, (by
           have hl1 : (l.take n).length = n := by rw [List.length_take]; omega
           have h1 := viewB hS.ok (no_label_g5_4) rfl
           show NewV _ _ _ [.slice (cutA A 0 c 1) (l.take n).length c]
           rw [hl1]
           exact ⟨h1, fun g hg => (hS.new (no_label_g5_4) rfl rfl).2.2 g hg⟩), (fun r hr => by
           obtain rfl := List.mem_singleton.1 hr
           exact viewV hS.ok (no_label_vq) rfl), hS.kp⟩
       | exact ⟨none, 0, 0, [], 30, rfl, rfl, .inr ⟨h0, .inr ⟨hgt, .inl ⟨hst, rfl, rfl⟩⟩⟩, NewV.nil_ _ _ _, (fun r hr => by cases hr), hS.kp⟩
       | exact ⟨none, 0, 0, [], 1, rfl, rfl, .inr ⟨h0, .inr ⟨hgt, .inr ⟨hst, .inl ⟨hlt, rfl, rfl⟩⟩⟩⟩, NewV.nil_ _ _ _, (fun r hr => by cases hr), hS.kp⟩
       | exact ⟨none, 0, 0, [], E p, rfl, rfl, hRs _ _ (.inl ⟨hE0, rfl, k, by rw [← hp]; exact hlt, fun j hj => (hN j hj).2, by rw [← hp]⟩), NewV.nil_ _ _ _, (fun r hr => by cases hr), (hS0.leave [0, 1] [2, 3] rfl rfl rfl (hS.pick [(no_label_row), 0] rfl rfl) rfl).kp⟩
       | exact ⟨G, n', c', rows, 0, hn, rfl, hRs _ _ (.inr ⟨rfl, k, hR, by rw [← hp]; omega, hN⟩), hS.newv (no_label_row) rfl, (fun r hr => (haw r hr).1), hS.kp⟩
  try (exfalso; first | with_reducible exact absurd hc0 Bool.false_ne_true | with_reducible exact absurd hc0.symm Bool.false_ne_true | (simp only [nrm] at hc0; omega) | (simp at hc0; done))
  all_goals
   try simp only [nrm] at hc0
   have h0 : er = 0 := by first | omega | (simp at hc0; omega)
   obtain ⟨n, rfl, hnl⟩ := hlen h0
   refine wp_skip ?_
   refine then_n (hK3 _ _ ?_); clear hK3 K3
   refine wp_seq_k ?_; intro K6 hK6
   refine wp_seq_k ?_; intro K7 hK7
   refine wlit ?_
   refine wl_v (x_fa 1 Try.underlying41 rfl rfl ts_3 (tmP rfl rfl)) ?_
   first
    | refine wl_v (x_load Try.underlying3 rfl (tmP rfl rfl) (cellB hS.ok 0 rfl rfl)) ?_
    | refine wl_v (x_load Try.underlying3 rfl (tmP rfl rfl) (cellB hS.ok 0 rfl (getm (by omega)))) ?_
   refine wl_v (x_move (tmI rfl rfl)) ?_
   refine wl_v (x_leq (tmI rfl rfl) (tmI rfl rfl)) ?_
   refine wl_nil ?_
   refine then_n (hK7 _ _ ?_); clear hK7 K7
   refine cnd (tm rfl) (fun hc1 => ?_) (fun hc1 => ?_)
   · try (exfalso; first | with_reducible exact absurd hc1 Bool.false_ne_true | with_reducible exact absurd hc1.symm Bool.false_ne_true | (simp only [nrm] at hc1; omega) | (simp at hc1; done))
     all_goals
      try simp only [nrm] at hc1
      have hle : (n : Int) ≤ most := by first | omega | (simp at hc1; omega)
      refine wp_seq_k ?_; intro K8 hK8
      replace hS := hS.cutb 3 0 n rfl hc
      refine wlit ?_
      refine wl_v (x_move (tmS rfl rfl)) ?_
      refine wl_v (x_fa 1 Try.underlying41 rfl rfl ts_3 (tmP rfl rfl)) ?_
      first
       | refine wl_v (x_load Try.underlying3 rfl (tmP rfl rfl) (cellB hS.ok 1 rfl rfl)) ?_
       | refine wl_v (x_load Try.underlying3 rfl (tmP rfl rfl) (cellB hS.ok 1 rfl (getm (by omega)))) ?_
      refine wl_v (x_sliceH Try.underlying22 ts_5 (tmS rfl rfl) (tmI rfl rfl) (by omega)) ?_
      refine wl_e rfl ?_; intro K hK
      refine ow_build hS Try.underlying24 tz_22 (bc_take (tmS rfl rfl) <| bc_nil) rfl rfl (by kernel_rfl) ?_
      clear hS; intro g5_4 w hg5_4 hS
      refine hK _ _ ?_; clear hK K
      refine wl_v (x_assign (tmS rfl rfl)) ?_
      refine wl_v (x_assign (ev_cN 0)) ?_
      refine wl_nil ?_
      refine then_n (hK8 _ _ ?_); clear hK8 K8
      refine wp_ret ?_
      refine then_r ?_
      refine ret2 rfl (.tmp rfl (show _ = Value.slice _ _ _ from rfl)) (.tmp rfl (show _ = Value.int _ _ from rfl)) ?_
      first
        | exact ⟨none, 0, 0, [], er, rfl, rfl, .inl ⟨h0, rfl, rfl⟩, NewV.nil_ _ _ _, (fun r hr => by cases hr), hS.kp⟩
        | exact ⟨_, 1, _, [(cutA A 0 c 1, l.take n, c)], 0, rfl, rfl, .inr ⟨h0, .inl ⟨hle, rfl, rfl⟩⟩, (by
            have hl1 : (l.take n).length = n := by rw [List.length_take]; omega
            have h1 := viewB hS.ok 0 rfl
            show NewV _ _ _ [.slice (cutA A 0 c 1) (l.take n).length c]
            rw [hl1]
            exact ⟨h1, fun g hg => (hS.new 0 rfl rfl).2.2 g hg⟩), (fun r hr => by
            obtain rfl := List.mem_singleton.1 hr
            exact viewV hS.ok 1 rfl), hS.kp⟩
        | exact ⟨none, 0, 0, [], 30, rfl, rfl, .inr ⟨h0, .inr ⟨hgt, .inl ⟨hst, rfl, rfl⟩⟩⟩, NewV.nil_ _ _ _, (fun r hr => by cases hr), hS.kp⟩
        | exact ⟨none, 0, 0, [], 1, rfl, rfl, .inr ⟨h0, .inr ⟨hgt, .inr ⟨hst, .inl ⟨hlt, rfl, rfl⟩⟩⟩⟩, NewV.nil_ _ _ _, (fun r hr => by cases hr), hS.kp⟩
        | exact ⟨none, 0, 0, [], E p, rfl, rfl, hRs _ _ (.inl ⟨hE0, rfl, k, by rw [← hp]; exact hlt, fun j hj => (hN j hj).2, by rw [← hp]⟩), NewV.nil_ _ _ _, (fun r hr => by cases hr), (hS0.leave [0, 1] [2, 3] rfl rfl rfl (hS.pick [(no_label_row), 2] rfl rfl) rfl).kp⟩
        | exact ⟨G, n', c', rows, 0, hn, rfl, hRs _ _ (.inr ⟨rfl, k, hR, by rw [← hp]; omega, hN⟩), hS.newv (no_label_row) rfl, (fun r hr => (haw r hr).1), hS.kp⟩
   try (exfalso; first | with_reducible exact absurd hc1 Bool.false_ne_true | with_reducible exact absurd hc1.symm Bool.false_ne_true | (simp only [nrm] at hc1; omega) | (simp at hc1; done))
   all_goals
    try simp only [nrm] at hc1
    have hgt : most < (n : Int) := by first | omega | (simp at hc1; omega)
    refine wp_skip ?_
    refine then_n (hK6 _ _ ?_); clear hK6 K6
    refine wp_seq_k ?_; intro K9 hK9
    refine wp_seq_k ?_; intro K10 hK10
    refine wlit ?_
    refine wl_v (x_fa 3 Try.underlying41 rfl rfl ts_4 (tmP rfl rfl)) ?_
    first
     | refine wl_v (x_load Try.underlying4 rfl (tmP rfl rfl) (cellB hS.ok 0 rfl rfl)) ?_
     | refine wl_v (x_load Try.underlying4 rfl (tmP rfl rfl) (cellB hS.ok 0 rfl (getm (by omega)))) ?_
    refine wl_nil ?_
    refine then_n (hK10 _ _ ?_); clear hK10 K10
    refine cnd (tm rfl) (fun hc2 => ?_) (fun hc2 => ?_)
    · try (exfalso; first | with_reducible exact absurd hc2 Bool.false_ne_true | with_reducible exact absurd hc2.symm Bool.false_ne_true | (simp only [nrm] at hc2; omega) | (simp at hc2; done))
      all_goals
       try simp only [nrm] at hc2
       have hst : stay = true := by first | exact hc2 | simpa using hc2
       refine wp_seq_k ?_; intro K11 hK11
       refine wlit ?_
       refine wl_v (x_assign ev_c) ?_
       refine wl_v (x_assign (ev_cN 30)) ?_
       refine wl_nil ?_
       refine then_n (hK11 _ _ ?_); clear hK11 K11
       refine wp_ret ?_
       refine then_r ?_
       refine ret2 rfl (.tmp rfl (show _ = Value.slice _ _ _ from rfl)) (.tmp rfl (show _ = Value.int _ _ from rfl)) ?_
       first
         | exact ⟨none, 0, 0, [], er, rfl, rfl, .inl ⟨h0, rfl, rfl⟩, NewV.nil_ _ _ _, (fun r hr => by cases hr), hS.kp⟩
         | exact ⟨_, 1, _, [(cutA A 0 c 1, l.take n, c)], 0, rfl, rfl, .inr ⟨h0, .inl ⟨hle, rfl, rfl⟩⟩, (by
             have hl1 : (l.take n).length = n := by rw [List.length_take]; omega
             have h1 := viewB hS.ok (no_label_g5_4) rfl
             show NewV _ _ _ [.slice (cutA A 0 c 1) (l.take n).length c]
             rw [hl1]
             exact ⟨h1, fun g hg => (hS.new (no_label_g5_4) rfl rfl).2.2 g hg⟩), (fun r hr => by
             obtain rfl := List.mem_singleton.1 hr
             exact viewV hS.ok (no_label_vq) rfl), hS.kp⟩
         | exact ⟨none, 0, 0, [], 30, rfl, rfl, .inr ⟨h0, .inr ⟨hgt, .inl ⟨hst, rfl, rfl⟩⟩⟩, NewV.nil_ _ _ _, (fun r hr => by cases hr), hS.kp⟩
         | exact ⟨none, 0, 0, [], 1, rfl, rfl, .inr ⟨h0, .inr ⟨hgt, .inr ⟨hst, .inl ⟨hlt, rfl, rfl⟩⟩⟩⟩, NewV.nil_ _ _ _, (fun r hr => by cases hr), hS.kp⟩
         | exact ⟨none, 0, 0, [], E p, rfl, rfl, hRs _ _ (.inl ⟨hE0, rfl, k, by rw [← hp]; exact hlt, fun j hj => (hN j hj).2, by rw [← hp]⟩), NewV.nil_ _ _ _, (fun r hr => by cases hr), (hS0.leave [0, 1] [2, 3] rfl rfl rfl (hS.pick [(no_label_row), 0] rfl rfl) rfl).kp⟩
         | exact ⟨G, n', c', rows, 0, hn, rfl, hRs _ _ (.inr ⟨rfl, k, hR, by rw [← hp]; omega, hN⟩), hS.newv (no_label_row) rfl, (fun r hr => (haw r hr).1), hS.kp⟩
    try (exfalso; first | with_reducible exact absurd hc2 Bool.false_ne_true | with_reducible exact absurd hc2.symm Bool.false_ne_true | (simp only [nrm] at hc2; omega) | (simp at hc2; done))
    all_goals
     try simp only [nrm] at hc2
     have hst : stay = false := by first | exact hc2 | simpa using hc2
     refine wp_skip ?_
     refine then_n (hK9 _ _ ?_); clear hK9 K9
     refine wp_seq_k ?_; intro K12 hK12
     refine wlit ?_
     refine wl_v (x_fa 15 Try.underlying41 rfl rfl ts_22 (tmP rfl rfl)) ?_
     first
      | refine wl_v (x_load Try.underlying22 rfl (tmP rfl rfl) (cellB hS.ok 0 rfl rfl)) ?_
      | refine wl_v (x_load Try.underlying22 rfl (tmP rfl rfl) (cellB hS.ok 0 rfl (getm (by omega)))) ?_
     refine wl_v (x_len Try.underlying22 (tmS rfl rfl)) ?_
     first
      | refine wl_v (x_addN (ev_cN 20) (tmI rfl rfl) (fit_i64 (by omega))) ?_
      | refine wl_v (x_addI (ev_cN 20) (tmI rfl rfl) (IntWalk.i64_in _ (by omega))) ?_
      | refine wl_v (x_add (ev_cN 20) (tmI rfl rfl)) ?_
     refine wl_v (x_assign (tmI rfl rfl)) ?_
     refine wl_nil ?_
     refine then_n (hK12 _ _ ?_); clear hK12 K12
     refine wp_seq_k ?_; intro K13 hK13
     refine wp_seq_k ?_; intro K14 hK14
     refine wlit ?_
     refine wl_v (x_move (tmI rfl rfl)) ?_
     refine wl_v (x_move (tmI rfl rfl)) ?_
     first
      | refine wl_v (x_addN (tmI rfl rfl) (ev_cN 8) (fit_i64 (by omega))) ?_
      | refine wl_v (x_addI (tmI rfl rfl) (ev_cN 8) (IntWalk.i64_in _ (by omega))) ?_
      | refine wl_v (x_add (tmI rfl rfl) (ev_cN 8)) ?_
     refine wl_v (x_lss (tmI rfl rfl) (tmI rfl rfl)) ?_
     refine wl_nil ?_
     refine then_n (hK14 _ _ ?_); clear hK14 K14
     refine cnd (tm rfl) (fun hc3 => ?_) (fun hc3 => ?_)
     · try (exfalso; first | with_reducible exact absurd hc3 Bool.false_ne_true | with_reducible exact absurd hc3.symm Bool.false_ne_true | (simp only [nrm] at hc3; omega) | (simp at hc3; done))
       all_goals
        try simp only [nrm] at hc3
        have hlt : most < ((20 + o.length + 8 : Nat) : Int) := by first | omega | (simp at hc3; omega)
        refine wp_seq_k ?_; intro K15 hK15
        refine wlit ?_
        refine wl_v (x_assign ev_c) ?_
        refine wl_v (x_assign (ev_cN 1)) ?_
        refine wl_nil ?_
        refine then_n (hK15 _ _ ?_); clear hK15 K15
        refine wp_ret ?_
        refine then_r ?_
        refine ret2 rfl (.tmp rfl (show _ = Value.slice _ _ _ from rfl)) (.tmp rfl (show _ = Value.int _ _ from rfl)) ?_
        first
          | exact ⟨none, 0, 0, [], er, rfl, rfl, .inl ⟨h0, rfl, rfl⟩, NewV.nil_ _ _ _, (fun r hr => by cases hr), hS.kp⟩
          | exact ⟨_, 1, _, [(cutA A 0 c 1, l.take n, c)], 0, rfl, rfl, .inr ⟨h0, .inl ⟨hle, rfl, rfl⟩⟩, (by
              have hl1 : (l.take n).length = n := by rw [List.length_take]; omega
              have h1 := viewB hS.ok (no_label_g5_4) rfl
              show NewV _ _ _ [.slice (cutA A 0 c 1) (l.take n).length c]
              rw [hl1]
              exact ⟨h1, fun g hg => (hS.new (no_label_g5_4) rfl rfl).2.2 g hg⟩), (fun r hr => by
              obtain rfl := List.mem_singleton.1 hr
              exact viewV hS.ok (no_label_vq) rfl), hS.kp⟩
          | exact ⟨none, 0, 0, [], 30, rfl, rfl, .inr ⟨h0, .inr ⟨hgt, .inl ⟨hst, rfl, rfl⟩⟩⟩, NewV.nil_ _ _ _, (fun r hr => by cases hr), hS.kp⟩
          | exact ⟨none, 0, 0, [], 1, rfl, rfl, .inr ⟨h0, .inr ⟨hgt, .inr ⟨hst, .inl ⟨hlt, rfl, rfl⟩⟩⟩⟩, NewV.nil_ _ _ _, (fun r hr => by cases hr), hS.kp⟩
          | exact ⟨none, 0, 0, [], E p, rfl, rfl, hRs _ _ (.inl ⟨hE0, rfl, k, by rw [← hp]; exact hlt, fun j hj => (hN j hj).2, by rw [← hp]⟩), NewV.nil_ _ _ _, (fun r hr => by cases hr), (hS0.leave [0, 1] [2, 3] rfl rfl rfl (hS.pick [(no_label_row), 0] rfl rfl) rfl).kp⟩
          | exact ⟨G, n', c', rows, 0, hn, rfl, hRs _ _ (.inr ⟨rfl, k, hR, by rw [← hp]; omega, hN⟩), hS.newv (no_label_row) rfl, (fun r hr => (haw r hr).1), hS.kp⟩
     try (exfalso; first | with_reducible exact absurd hc3 Bool.false_ne_true | with_reducible exact absurd hc3.symm Bool.false_ne_true | (simp only [nrm] at hc3; omega) | (simp at hc3; done))
     all_goals
      try simp only [nrm] at hc3
      have hge : ((20 + o.length + 8 : Nat) : Int) ≤ most := by first | omega | (simp at hc3; omega)
      obtain ⟨M, rfl⟩ := Int.eq_ofNat_of_zero_le (a := most) (by omega)
      obtain ⟨sp, hsp⟩ : ∃ sp, sp = (M - (20 + o.length)) / 8 := ⟨_, rfl⟩
      have hsp0 : 0 < sp := by omega
      have hsp1 : M - (20 + o.length) - (M - (20 + o.length)) % 8 = 8 * sp := by omega
      have hcx := (cutP_ex tos (n : Int) id stay more off ttl pr sum s d o x sp q1 q3 q7 q8 hob ho hx).2
      have hRs : ∀ rows e, CutR (cutBx tos id stay more off ttl pr s d o x sp) (cutEx off s d o x sp) x.length (8 * sp) rows e → SplitR l (M : Int) tos (n : Int) id stay more off ttl pr s d o x er rows e := fun rows e hR => by
        subst hsp
        exact .inr ⟨h0, .inr ⟨hgt, .inr ⟨hst, .inr ⟨hge, hR⟩⟩⟩⟩
      generalize cutBx tos id stay more off ttl pr s d o x sp = B at *
      generalize cutEx off s d o x sp = E at *
      refine wp_skip ?_
      refine then_n (hK13 _ _ ?_); clear hK13 K13
      refine wp_seq_k ?_; intro K16 hK16
      refine wlit ?_
      refine wl_v (x_move (tmI rfl rfl)) ?_
      refine wl_v (x_move (tmI rfl rfl)) ?_
      refine wl_v (x_subN (tmI rfl rfl) (tmI rfl rfl) (fit_i64 (by omega)) (by omega)) ?_
      refine wl_v (x_assign (tmI rfl rfl)) ?_
      refine wl_nil ?_
      refine then_n (hK16 _ _ ?_); clear hK16 K16
      refine wp_seq_k ?_; intro K17 hK17
      refine wlit ?_
      refine wl_v (x_move (tmI rfl rfl)) ?_
      refine wl_v (x_move (tmI rfl rfl)) ?_
      first
       | refine wl_v (x_remN (tmI rfl rfl) (ev_cN 8) (by omega)) ?_
       | refine wl_v (x_rem (tmI rfl rfl) (ev_cN 8) (by omega)) ?_
      first
       | refine wl_v (x_subN (tmI rfl rfl) (tmI rfl rfl) (fit_i64 (by omega)) (by omega)) ?_
       | refine wl_v (x_subI (tmI rfl rfl) (tmI rfl rfl) (IntWalk.i64_in _ (by omega))) ?_
       | refine wl_v (x_sub (tmI rfl rfl) (tmI rfl rfl)) ?_
      refine wl_v (x_assign (tmI rfl (congrArg (fun q : Nat => Value.int .i64 (q : Int)) hsp1))) ?_
      refine wl_nil ?_
      refine then_n (hK17 _ _ ?_); clear hK17 K17
      refine wp_seq_k ?_; intro K18 hK18
      refine wlit ?_
      refine wl_v (x_assign ev_c) ?_
      refine wl_nil ?_
      refine then_n (hK18 _ _ ?_); clear hK18 K18
      refine wp_seq_k ?_; intro K19 hK19
      refine wlit ?_
      refine wl_v (x_fa 5 Try.underlying41 rfl rfl ts_3 (tmP rfl rfl)) ?_
      first
       | refine wl_v (x_load Try.underlying3 rfl (tmP rfl rfl) (cellB hS.ok 0 rfl rfl)) ?_
       | refine wl_v (x_load Try.underlying3 rfl (tmP rfl rfl) (cellB hS.ok 0 rfl (getm (by omega)))) ?_
      refine wl_v (x_assign (tmI rfl rfl)) ?_
      refine wl_nil ?_
      refine then_n (hK19 _ _ ?_); clear hK19 K19
      refine wp_seq_k ?_; intro K20 hK20
      refine wp_block ?_
      have hS := (hS.nilrow 22 1).pick [0, 1, 2, 3] rfl rfl --ents row,g1_6,vo,vx
      refine lp [4, 5, 7, 11, 12, 13, 14, 15, 16, 54, 55, 56, 57, 58, 59, 60, 61, 62, 63, 64, 65, 66, 67, 68, 69, 70, 71, 72, 73, 74, 75, 76, 77, 78, 79, 80, 81, 82, 83, 84, 85, 86, 87, 88, 89, 90, 91, 92, 93, 94] (fun mz g w => ∃ (k p q ev : Nat), ∃ (A' : Option Addr), ∃ (c2 : Nat), ∃ (G : Option Addr), ∃ (n' c' : Nat), ∃ (rows : List Row3), mz = 2 * q ∧ g 7 = .slice A' q c2 ∧ g 11 = .slice G n' c' ∧ g 12 = .int .i64 (ev : Int) ∧ St [] w0 [.row (.slice G n' c') 22 1 n' (rows.map rowV), .blk g1_6 41 (hdV tos (n : Int) id stay more (off : Int) ttl pr sum s d O o.length co), .vw O (o.map u8v), .vw L (x.map u8v)] w ∧ (p = k * (8 * sp)) ∧ (q = x.length - p) ∧ (Off L p x.length A') ∧ (q ≤ c2) ∧ (ev = off + p / 8) ∧ (p < x.length + 8 * sp) ∧ (k ≤ p) ∧ (n' = k) ∧ (rows.length = n') ∧ (rows.map (·.2.1) = (List.range k).map (fun j => B (j * (8 * sp)))) ∧ (∀ j, j < k → j * (8 * sp) < x.length ∧ E (j * (8 * sp)) = 0) ∧ (Rws w w0.heap.size (blks [.row (.slice G n' c') 22 1 n' (rows.map rowV), .blk g1_6 41 (hdV tos (n : Int) id stay more (off : Int) ttl pr sum s d O o.length co)]) rows)) ?_ ?_
      · exact ⟨_, 0, 0, _, _, _, _, none, 0, 0, [], rfl, (by first | rfl | go_num | exact congrArg (Value.int _) (by first | omega | (simp; done) | (simp; omega))), (by first | rfl | go_num | exact congrArg (Value.int _) (by first | omega | (simp; done) | (simp; omega))), (by first | rfl | go_num | exact congrArg (Value.int _) (by first | omega | (simp; done) | (simp; omega))), hS, (by first | exact (Nat.zero_mul _).symm | exact hp1), (by omega), (by first | exact off_zero | exact hoff2), (by omega), (by first | omega | (rw [Nat.zero_div]; done)), (by omega), (by omega), (by first | rfl | omega), (by first | rfl | (rw [List.length_append, hn]; rfl)), (by first | rfl | exact hR2 A2 c3), (by first | exact hN2 hE0 | (intro j hj; omega)), (by first | exact Rws.nil | (rw [hmap]; exact (haw.step (hS.pick [(no_label_row), 0] rfl rfl) rfl).snoc c3 (hS.pick [(no_label_vp), (no_label_row), 0] rfl rfl) rfl hlo))⟩
      · clear hS; intro mz g w hI
        obtain ⟨k, p, q, ev, A', c2, G, n', c', rows, rfl, hs7, hs11, hs12, hS, hp, hq, hoff, hc2, hev, hpx, hkp, hnk, hn, hR, hN, haw⟩ := hI
        refine fr_know (d := 7) hs7 ?_; clear hs7
        refine fr_know (d := 11) (upd_ne rfl hs11) ?_; clear hs11
        refine fr_know (d := 12) (upd_ne rfl (upd_ne rfl hs12)) ?_; clear hs12
        refine wp_seq_k ?_; intro K21 hK21
        refine wp_seq_k ?_; intro K22 hK22
        refine wlit ?_
        refine wl_v (x_move (tmS rfl rfl)) ?_
        refine wl_v (x_len Try.underlying22 (tmS rfl rfl)) ?_
        refine wl_v (x_gtr (tmI rfl rfl) (ev_cN 0)) ?_
        refine wl_nil ?_
        refine then_n (hK22 _ _ ?_); clear hK22 K22
        refine cnd (tm rfl) (fun hc4 => ?_) (fun hc4 => ?_)
        · try (exfalso; first | with_reducible exact absurd hc4 Bool.false_ne_true | with_reducible exact absurd hc4.symm Bool.false_ne_true | (simp only [nrm] at hc4; omega) | (simp at hc4; done))
          all_goals
           try simp only [nrm] at hc4
           have hlt : p < x.length := by omega
           obtain ⟨m, hm⟩ : ∃ m, m = min (8 * sp) q := ⟨_, rfl⟩
           have hml : ((x.drop p).take m).length = m := by rw [List.length_take, List.length_drop]; omega
           have hcall : ∀ (b : Bool) (z : Int) (w : World) (c4 : Nat), b = (more || decide (p + m < x.length)) → z = ((off + p / 8 : Nat) : Int) → View w w.heap.size O (o.map u8v) → View w w.heap.size (cutA A' 0 c2 1) (((x.drop p).take m).map u8v) →
               Calls Try.prog 12 #[.agg (hdV tos (n : Int) id stay b z ttl pr sum s d O o.length co).toArray, .slice (cutA A' 0 c2 1) m c4] w fun e w' => ∃ A n c', n = (B p).length ∧ e = .returned (.tuple #[.slice A n c', .int .i64 (E p : Int)]) ∧ New w w' (.row (.slice A n c') 5 1 n ((B p).map u8v)) ∧ Kp [] w w' := fun b z w c4 hb hz h1 h2 => by
             have h3 := hcx p m b z hlt (by omega) hb hz w O co (cutA A' 0 c2 1) c4 h1 h2
             rw [hml] at h3
             exact h3
           have hvx : ∀ w : World, View w w.heap.size L (x.map u8v) → View w w.heap.size (cutA A' 0 c2 1) (((x.drop p).take m).map u8v) := fun w h => by
             have h1 := (off_view h (by rw [List.length_map]) hoff m).cutA (c := c2) (by rw [List.length_take, List.length_drop, List.length_map]; omega) 0 m
             rw [List.drop_zero, List.take_take, Nat.min_self, ← List.map_drop, ← List.map_take] at h1
             exact h1
           have hoff2 : Off L (p + 8 * sp) x.length (cutA A' m c2 1) := by
             by_cases h : p + 8 * sp < x.length
             · have hm8 : m = 8 * sp := by omega
               rw [← hm8]
               exact off_cut hoff (by omega)
             · exact fun hh => absurd hh h
           have hN2 : E p = 0 → ∀ j, j < k + 1 → j * (8 * sp) < x.length ∧ E (j * (8 * sp)) = 0 := fun h0 j hj => by
             by_cases h : j < k
             · exact hN j h
             · obtain rfl : j = k := by omega
               rw [← hp]; exact ⟨hlt, h0⟩
           have hR2 : ∀ (A2 : Option Addr) (c2 : Nat), (rows ++ [(A2, B p, c2)]).map (·.2.1) = (List.range (k + 1)).map (fun j => B (j * (8 * sp))) := fun A2 c2 => by
             rw [List.map_append, hR, List.range_succ, List.map_append]
             show _ ++ [B p] = _ ++ [B (k * (8 * sp))]
             rw [← hp]
           have hp1 : p + 8 * sp = (k + 1) * (8 * sp) := by rw [Nat.add_mul k 1 (8 * sp), Nat.one_mul, ← hp]
           have hS0 := hS
           replace hS := hS0.enter [0, 1] [2, 3] rfl rfl
           try replace hS := St.nm (M' := [.row _ _ _ _ _, .blk _ _ [_, _, _, _, _, _, _, _, _, _, _, _, _, _, _, _], .vw _ _, .vw _ _]) hS rfl
           refine wp_skip ?_
           refine then_n (hK21 _ _ ?_); clear hK21 K21
           refine wp_block ?_
           refine wp_seq_k ?_; intro K23 hK23
           refine wlit ?_
           refine wl_v (x_move (tmI rfl rfl)) ?_
           refine wl_v (x_move (tmS rfl rfl)) ?_
           refine wl_v (x_len Try.underlying22 (tmS rfl rfl)) ?_
           first
            | refine wl_v (x_min (tmI rfl rfl) (tmI rfl rfl)) ?_
            | refine wl_v (x_minI (tmI rfl rfl) (tmI rfl rfl)) ?_
           refine wl_v (x_assign (tmI rfl (congrArg (fun q : Nat => Value.int .i64 (q : Int)) hm.symm))) ?_
           refine wl_nil ?_
           refine then_n (hK23 _ _ ?_); clear hK23 K23
           refine wp_seq_k ?_; intro K24 hK24
           refine wlit ?_
           refine wl_v (x_loadA (cs := [_, _, _, _, _, _, _, _, _, _, _, _, _, _, _, _]) Try.underlying41 rfl ts_41 (tmP rfl rfl) (rangeB hS.ok 1 rfl rfl)) ?_
           refine wl_e rfl ?_; intro K hK
           refine ow_alloc hS tz_41 rfl ?_
           clear hS; intro g17_1 w hg17_1 hS
           refine hK _ _ ?_; clear hK K
           refine wl_e rfl ?_; intro K hK
           refine ow_storeA hS 0 rfl ts_41 (tmP rfl rfl) (tmA rfl rfl) rfl rfl rfl ?_
           clear hS; intro w hS
           try replace hS := St.nm (M' := [.blk _ _ [_, _, _, _, _, _, _, _, _, _, _, _, _, _, _, _], .row _ _ _ _ _, .blk _ _ [_, _, _, _, _, _, _, _, _, _, _, _, _, _, _, _], .vw _ _, .vw _ _]) hS rfl
           refine hK _ _ ?_; clear hK K
           refine wl_nil ?_
           refine then_n (hK24 _ _ ?_); clear hK24 K24
           refine wp_seq_k ?_; intro K25 hK25
           refine wlit ?_
           refine wl_v (x_move (tmI rfl rfl)) ?_
           refine wl_v (x_fa 5 Try.underlying41 rfl rfl ts_3 (tmP rfl rfl)) ?_
           refine wl_e rfl ?_; intro K hK
           first
            | refine ow_store hS 0 rfl ts_3 (tmP rfl rfl) (tmI rfl rfl) rfl rfl ?_
            | refine ow_storeX hS 0 rfl ts_3 (tmP rfl rfl) (tmI rfl rfl) rfl (by simp; omega) ?_
           clear hS; intro w hS
           try replace hS := St.nm (M' := [.blk _ _ [_, _, _, _, _, _, _, _, _, _, _, _, _, _, _, _], .row _ _ _ _ _, .blk _ _ [_, _, _, _, _, _, _, _, _, _, _, _, _, _, _, _], .vw _ _, .vw _ _]) hS rfl
           refine hK _ _ ?_; clear hK K
           refine wl_nil ?_
           refine then_n (hK25 _ _ ?_); clear hK25 K25
           refine wp_seq_k ?_; intro K26 hK26
           refine wlit ?_
           refine wl_v (x_fa 4 Try.underlying41 rfl rfl ts_4 (tmP rfl rfl)) ?_
           first
            | refine wl_v (x_load Try.underlying4 rfl (tmP rfl rfl) (cellB hS.ok 2 rfl rfl)) ?_
            | refine wl_v (x_load Try.underlying4 rfl (tmP rfl rfl) (cellB hS.ok 2 rfl (getm (by omega)))) ?_
           refine wl_v (x_move (tmB rfl rfl)) ?_
           refine gs_wl (tm (t := 66) rfl) (fun hg19_2 => ?_) (fun hg19_2 => ?_)
           · have hg19_2' := hg19_2; (try simp only [nrm] at hg19_2'); try (exfalso; first | with_reducible exact absurd hg19_2 Bool.false_ne_true | with_reducible exact absurd hg19_2.symm Bool.false_ne_true | omega | (simp at hg19_2; done))
             all_goals
              refine wl_s rfl (want_n rfl rfl rfl rfl (by rw [hg19_2]; rfl)) ?_
              refine wl_s rfl (want_n rfl rfl rfl rfl (by rw [hg19_2]; rfl)) ?_
              refine wl_s rfl (want_n rfl rfl rfl rfl (by rw [hg19_2]; rfl)) ?_
              refine wl_s rfl (want_n rfl rfl rfl rfl (by rw [hg19_2]; rfl)) ?_
              refine wl_v (x_pickT (tmB rfl rfl) hg19_2 ev_c) ?_
              refine wl_v (x_fa 4 Try.underlying41 rfl rfl ts_4 (tmP rfl rfl)) ?_
              refine wl_e rfl ?_; intro K hK
              first
               | refine ow_store hS 0 rfl ts_4 (tmP rfl rfl) (tmB rfl rfl) rfl rfl ?_
               | refine ow_storeX hS 0 rfl ts_4 (tmP rfl rfl) (tmB rfl rfl) rfl (by simp; omega) ?_
              clear hS; intro w hS
              try replace hS := St.nm (M' := [.blk _ _ [_, _, _, _, _, _, _, _, _, _, _, _, _, _, _, _], .row _ _ _ _ _, .blk _ _ [_, _, _, _, _, _, _, _, _, _, _, _, _, _, _, _], .vw _ _, .vw _ _]) hS rfl
              refine hK _ _ ?_; clear hK K
              refine wl_nil ?_
              refine then_n (hK26 _ _ ?_); clear hK26 K26
              refine wp_seq_k ?_; intro K27 hK27
              refine rg_startk 0 hS mixed_ ?_
              clear hS; intro w hS
              refine rg_take 0 rfl rfl (by kernel_rfl) (by kernel_rfl) (by kernel_rfl) (want_0) (fun w hok => x_loadA (cs := [_, _, _, _, _, _, _, _, _, _, _, _, _, _, _, _]) Try.underlying41 rfl ts_41 (tmP rfl rfl) (rangeB hok 0 rfl rfl)) ?_
              refine rg_take 1 rfl rfl (by kernel_rfl) (by kernel_rfl) (by kernel_rfl) (want_0) (fun w hok => x_move (tmS rfl rfl)) ?_
              refine rg_take 2 rfl rfl (by kernel_rfl) (by kernel_rfl) (by kernel_rfl) (want_0) (fun w hok => x_move (tmI rfl rfl)) ?_
              refine rg_take 3 rfl rfl (by kernel_rfl) (by kernel_rfl) (by kernel_rfl) (want_0) (fun w hok => x_sliceH Try.underlying22 ts_5 (tmS rfl rfl) (tmI rfl rfl) (by omega)) ?_
              refine rg_step 4 rfl (by kernel_rfl) (want_0) (oks_drop hS 0 rfl) ?_; intro K hK
              refine ow_call Try.func12 rfl rfl (evs_cons (tmA rfl rfl) <| evs_cons (tmS rfl rfl) <| evs_nil) (hcall _ _ _ _ (by first | (rw [hg19_2]; rfl) | (rw [hg19_2, Bool.false_or]; exact decide_eq_decide.2 (by omega))) (by rw [hev]) (viewV hS.ok 3 rfl) (hvx _ (viewV hS.ok 4 rfl))) ?_
              rintro e w ⟨A2, n2, c3, hn2, rfl, hn3, hk⟩
              refine ⟨_, rfl, ?_⟩
              subst hn2
              have hlo : ∀ b, (Ent.vw A2 ((B p).map u8v)).blk? = some b → w0.heap.size ≤ b := fun b hb => Nat.le_trans (Nat.le_trans hS0.kp.size hS.kp.size) ((New.view hn3).2 b hb)
              have hmap : (rows ++ [(A2, B p, c3)]).map rowV = rows.map rowV ++ [.slice A2 (B p).length c3] := by rw [List.map_append]; rfl
              replace hS := hS.addn hk (New.view hn3) -- +vp
              clear hk hn3
              refine hK _ _ ?_; clear hK K
              refine rg_take 5 rfl rfl (by kernel_rfl) (by kernel_rfl) (by kernel_rfl) (want_0) (fun w hok => x_move (tmT rfl rfl)) ?_
              refine rg_take 6 rfl rfl (by kernel_rfl) (by kernel_rfl) (by kernel_rfl) (want_0) (fun w hok => x_ext (tmT rfl rfl) rfl) ?_
              refine rg_take 7 rfl rfl (by kernel_rfl) (by kernel_rfl) (by kernel_rfl) (want_0) (fun w hok => x_ext (tmT rfl rfl) rfl) ?_
              refine rg_take 8 rfl rfl (by kernel_rfl) (by kernel_rfl) (by kernel_rfl) (want_0) (fun w hok => x_assign (tmS rfl rfl)) ?_
              refine rg_take 9 rfl rfl (by kernel_rfl) (by kernel_rfl) (by kernel_rfl) (want_0) (fun w hok => x_assign (tmI rfl rfl)) ?_
              refine rg_done (oks_drop hS 1 rfl) (by kernel_rfl) ?_
              refine then_n (hK27 _ _ ?_); clear hK27 K27
              refine wp_seq_k ?_; intro K28 hK28
              refine wp_seq_k ?_; intro K29 hK29
              refine wlit ?_
              refine wl_v (x_move (tmI rfl rfl)) ?_
              refine wl_v (x_neq (tmI rfl rfl) (ev_cN 0)) ?_
              refine wl_nil ?_
              refine then_n (hK29 _ _ ?_); clear hK29 K29
              refine cnd (tm rfl) (fun hc5 => ?_) (fun hc5 => ?_)
              · try (exfalso; first | with_reducible exact absurd hc5 Bool.false_ne_true | with_reducible exact absurd hc5.symm Bool.false_ne_true | (simp only [nrm] at hc5; omega) | (simp at hc5; done))
                all_goals
                 try simp only [nrm] at hc5
                 have hE0 : E p ≠ 0 := by first | omega | (simp at hc5; omega)
                 refine wp_seq_k ?_; intro K30 hK30
                 refine wlit ?_
                 refine wl_v (x_move (tmI rfl rfl)) ?_
                 refine wl_v (x_assign ev_c) ?_
                 refine wl_v (x_assign (tmI rfl rfl)) ?_
                 refine wl_nil ?_
                 refine then_n (hK30 _ _ ?_); clear hK30 K30
                 refine wp_ret ?_
                 refine then_r ?_
                 refine inb_r ?_
                 refine then_r ?_
                 refine inb_r ?_
                 refine then_r ?_
                 refine ret2 rfl (.tmp rfl (show _ = Value.slice _ _ _ from rfl)) (.tmp rfl (show _ = Value.int _ _ from rfl)) ?_
                 first
                   | exact ⟨none, 0, 0, [], er, rfl, rfl, .inl ⟨h0, rfl, rfl⟩, NewV.nil_ _ _ _, (fun r hr => by cases hr), hS.kp⟩
                   | exact ⟨_, 1, _, [(cutA A 0 c 1, l.take n, c)], 0, rfl, rfl, .inr ⟨h0, .inl ⟨hle, rfl, rfl⟩⟩, (by
                       have hl1 : (l.take n).length = n := by rw [List.length_take]; omega
                       have h1 := viewB hS.ok (no_label_g5_4) rfl
                       show NewV _ _ _ [.slice (cutA A 0 c 1) (l.take n).length c]
                       rw [hl1]
                       exact ⟨h1, fun g hg => (hS.new (no_label_g5_4) rfl rfl).2.2 g hg⟩), (fun r hr => by
                       obtain rfl := List.mem_singleton.1 hr
                       exact viewV hS.ok (no_label_vq) rfl), hS.kp⟩
                   | exact ⟨none, 0, 0, [], 30, rfl, rfl, .inr ⟨h0, .inr ⟨hgt, .inl ⟨hst, rfl, rfl⟩⟩⟩, NewV.nil_ _ _ _, (fun r hr => by cases hr), hS.kp⟩
                   | exact ⟨none, 0, 0, [], 1, rfl, rfl, .inr ⟨h0, .inr ⟨hgt, .inr ⟨hst, .inl ⟨hlt, rfl, rfl⟩⟩⟩⟩, NewV.nil_ _ _ _, (fun r hr => by cases hr), hS.kp⟩
                   | exact ⟨none, 0, 0, [], E p, rfl, rfl, hRs _ _ (.inl ⟨hE0, rfl, k, by rw [← hp]; exact hlt, fun j hj => (hN j hj).2, by rw [← hp]⟩), NewV.nil_ _ _ _, (fun r hr => by cases hr), (hS0.leave [0, 1] [2, 3] rfl rfl rfl (hS.pick [2, 3] rfl rfl) rfl).kp⟩
                   | exact ⟨G, n', c', rows, 0, hn, rfl, hRs _ _ (.inr ⟨rfl, k, hR, by rw [← hp]; omega, hN⟩), hS.newv 2 rfl, (fun r hr => (haw r hr).1), hS.kp⟩
              try (exfalso; first | with_reducible exact absurd hc5 Bool.false_ne_true | with_reducible exact absurd hc5.symm Bool.false_ne_true | (simp only [nrm] at hc5; omega) | (simp at hc5; done))
              all_goals
               try simp only [nrm] at hc5
               have hE0 : E p = 0 := by first | omega | (simp at hc5; omega)
               refine wp_skip ?_
               refine then_n (hK28 _ _ ?_); clear hK28 K28
               refine wp_seq_k ?_; intro K31 hK31
               refine wlit ?_
               refine wl_v (x_move (tmS rfl rfl)) ?_
               refine wl_v (x_move (tmS rfl rfl)) ?_
               refine wl_e rfl ?_; intro K hK
               refine ow_build hS Try.underlying24 tz_22 (bc_take (tmS rfl rfl) <| bc_nil) rfl rfl (by kernel_rfl) ?_
               clear hS; intro g23_2 w hg23_2 hS
               refine hK _ _ ?_; clear hK K
               refine wl_e rfl ?_; intro K hK
               (refine ow_append hS 3 0 rfl rfl Try.underlying24 tz_22 rfl (tmS rfl rfl) (tmS rfl rfl) rfl ⟨by decide, by decide, rfl⟩ (by simp only [maxLen]; omega) (by omega) ?_; clear hS; intro g23_3 cg23_3 w hS)
               refine hK _ _ ?_; clear hK K
               refine wl_v (x_assign (tmS rfl rfl)) ?_
               refine wl_nil ?_
               refine then_n (hK31 _ _ ?_); clear hK31 K31
               refine wp_seq_k ?_; intro K32 hK32
               refine wlit ?_
               refine wl_v (x_move (tmS rfl rfl)) ?_
               refine wl_v (x_move (tmI rfl rfl)) ?_
               refine wl_v (x_sliceL Try.underlying22 ts_5 (tmS rfl rfl) (tmI rfl rfl) (by omega)) ?_
               refine wl_v (x_assign (tmS rfl rfl)) ?_
               refine wl_nil ?_
               refine then_n (hK32 _ _ ?_); clear hK32 K32
               refine wlit ?_
               refine wl_v (x_move (tmI rfl rfl)) ?_
               refine wl_v (x_move (tmI rfl rfl)) ?_
               first
                | refine wl_v (x_quoN (tmI rfl rfl) (ev_cN 8) (by omega) (fit_i64 (by omega))) ?_
                | refine wl_v (x_quo (tmI rfl rfl) (ev_cN 8) (by omega)) ?_
               first
                | refine wl_v (x_addN (tmI rfl rfl) (tmI rfl rfl) (fit_i64 (by omega))) ?_
                | refine wl_v (x_addI (tmI rfl rfl) (tmI rfl rfl) (IntWalk.i64_in _ (by omega))) ?_
                | refine wl_v (x_add (tmI rfl rfl) (tmI rfl rfl)) ?_
               refine wl_v (x_assign (tmI rfl rfl)) ?_
               refine wl_nil ?_
               refine inb_n ?_
               exact then_n ⟨_, _, rfl, (by show _ < _; omega), (by repeat (first | exact agree_self | exact agree_refl | refine agree_upd rfl ?_ | refine agree_mix rfl ?_)), k + 1, p + 8 * sp, q - m, ev + (8 * sp) / 8, cutA A' m c2 1, c2 - m, _, _, _, rows ++ [(A2, B p, c3)], rfl, (by first | rfl | go_num | exact congrArg (Value.int _) (by first | omega | (simp; done) | (simp; omega))), (by first | rfl | go_num | exact congrArg (Value.int _) (by first | omega | (simp; done) | (simp; omega))), (by first | rfl | go_num | exact congrArg (Value.int _) (by first | omega | (simp; done) | (simp; omega))), (by rw [hmap]; exact hS0.leave [0, 1] [2, 3] rfl rfl rfl (hS.pick [3, 4] rfl rfl) rfl), (by first | exact (Nat.zero_mul _).symm | exact hp1), (by omega), (by first | exact off_zero | exact hoff2), (by omega), (by first | omega | (rw [Nat.zero_div]; done)), (by omega), (by omega), (by first | rfl | omega), (by first | rfl | (rw [List.length_append, hn]; rfl)), (by first | rfl | exact hR2 A2 c3), (by first | exact hN2 hE0 | (intro j hj; omega)), (by first | exact Rws.nil | (rw [hmap]; exact (haw.step (hS.pick [3, 4] rfl rfl) rfl).snoc c3 (hS.pick [1, 3, 4] rfl rfl) rfl hlo))⟩
           have hg19_2' := hg19_2; (try simp only [nrm] at hg19_2'); try (exfalso; first | with_reducible exact absurd hg19_2 Bool.false_ne_true | with_reducible exact absurd hg19_2.symm Bool.false_ne_true | omega | (simp at hg19_2; done))
           all_goals
            refine wl_gv (want_y rfl rfl rfl rfl (by rw [hg19_2]; rfl)) (x_move (tmI rfl rfl)) ?_
            refine wl_gv (want_y rfl rfl rfl rfl (by rw [hg19_2]; rfl)) (x_move (tmS rfl rfl)) ?_
            refine wl_gv (want_y rfl rfl rfl rfl (by rw [hg19_2]; rfl)) (x_len Try.underlying22 (tmS rfl rfl)) ?_
            refine wl_gv (want_y rfl rfl rfl rfl (by rw [hg19_2]; rfl)) (x_lss (tmI rfl rfl) (tmI rfl rfl)) ?_
            refine wl_v (x_pickF (tmB rfl rfl) hg19_2 (tmB rfl rfl)) ?_
            refine wl_v (x_fa 4 Try.underlying41 rfl rfl ts_4 (tmP rfl rfl)) ?_
            refine wl_e rfl ?_; intro K hK
            first
             | refine ow_store hS 0 rfl ts_4 (tmP rfl rfl) (tmB rfl rfl) rfl rfl ?_
             | refine ow_storeX hS 0 rfl ts_4 (tmP rfl rfl) (tmB rfl rfl) rfl (by simp; omega) ?_
            clear hS; intro w hS
            try replace hS := St.nm (M' := [.blk _ _ [_, _, _, _, _, _, _, _, _, _, _, _, _, _, _, _], .row _ _ _ _ _, .blk _ _ [_, _, _, _, _, _, _, _, _, _, _, _, _, _, _, _], .vw _ _, .vw _ _]) hS rfl
            refine hK _ _ ?_; clear hK K
            refine wl_nil ?_
            refine then_n (hK26 _ _ ?_); clear hK26 K26
            refine wp_seq_k ?_; intro K33 hK33
            refine rg_startk 0 hS mixed_ ?_
            clear hS; intro w hS
            refine rg_take 0 rfl rfl (by kernel_rfl) (by kernel_rfl) (by kernel_rfl) (want_0) (fun w hok => x_loadA (cs := [_, _, _, _, _, _, _, _, _, _, _, _, _, _, _, _]) Try.underlying41 rfl ts_41 (tmP rfl rfl) (rangeB hok 0 rfl rfl)) ?_
            refine rg_take 1 rfl rfl (by kernel_rfl) (by kernel_rfl) (by kernel_rfl) (want_0) (fun w hok => x_move (tmS rfl rfl)) ?_
            refine rg_take 2 rfl rfl (by kernel_rfl) (by kernel_rfl) (by kernel_rfl) (want_0) (fun w hok => x_move (tmI rfl rfl)) ?_
            refine rg_take 3 rfl rfl (by kernel_rfl) (by kernel_rfl) (by kernel_rfl) (want_0) (fun w hok => x_sliceH Try.underlying22 ts_5 (tmS rfl rfl) (tmI rfl rfl) (by omega)) ?_
            refine rg_step 4 rfl (by kernel_rfl) (want_0) (oks_drop hS 0 rfl) ?_; intro K hK
            refine ow_call Try.func12 rfl rfl (evs_cons (tmA rfl rfl) <| evs_cons (tmS rfl rfl) <| evs_nil) (hcall _ _ _ _ (by first | (rw [hg19_2]; rfl) | (rw [hg19_2, Bool.false_or]; exact decide_eq_decide.2 (by omega))) (by rw [hev]) (viewV hS.ok 3 rfl) (hvx _ (viewV hS.ok 4 rfl))) ?_
            rintro e w ⟨A2, n2, c3, hn2, rfl, hn3, hk⟩
            refine ⟨_, rfl, ?_⟩
            subst hn2
            have hlo : ∀ b, (Ent.vw A2 ((B p).map u8v)).blk? = some b → w0.heap.size ≤ b := fun b hb => Nat.le_trans (Nat.le_trans hS0.kp.size hS.kp.size) ((New.view hn3).2 b hb)
            have hmap : (rows ++ [(A2, B p, c3)]).map rowV = rows.map rowV ++ [.slice A2 (B p).length c3] := by rw [List.map_append]; rfl
            replace hS := hS.addn hk (New.view hn3) -- +vp
            clear hk hn3
            refine hK _ _ ?_; clear hK K
            refine rg_take 5 rfl rfl (by kernel_rfl) (by kernel_rfl) (by kernel_rfl) (want_0) (fun w hok => x_move (tmT rfl rfl)) ?_
            refine rg_take 6 rfl rfl (by kernel_rfl) (by kernel_rfl) (by kernel_rfl) (want_0) (fun w hok => x_ext (tmT rfl rfl) rfl) ?_
            refine rg_take 7 rfl rfl (by kernel_rfl) (by kernel_rfl) (by kernel_rfl) (want_0) (fun w hok => x_ext (tmT rfl rfl) rfl) ?_
            refine rg_take 8 rfl rfl (by kernel_rfl) (by kernel_rfl) (by kernel_rfl) (want_0) (fun w hok => x_assign (tmS rfl rfl)) ?_
            refine rg_take 9 rfl rfl (by kernel_rfl) (by kernel_rfl) (by kernel_rfl) (want_0) (fun w hok => x_assign (tmI rfl rfl)) ?_
            refine rg_done (oks_drop hS 1 rfl) (by kernel_rfl) ?_
            refine then_n (hK33 _ _ ?_); clear hK33 K33
            refine wp_seq_k ?_; intro K34 hK34
            refine wp_seq_k ?_; intro K35 hK35
            refine wlit ?_
            refine wl_v (x_move (tmI rfl rfl)) ?_
            refine wl_v (x_neq (tmI rfl rfl) (ev_cN 0)) ?_
            refine wl_nil ?_
            refine then_n (hK35 _ _ ?_); clear hK35 K35
            refine cnd (tm rfl) (fun hc5 => ?_) (fun hc5 => ?_)
            · try (exfalso; first | with_reducible exact absurd hc5 Bool.false_ne_true | with_reducible exact absurd hc5.symm Bool.false_ne_true | (simp only [nrm] at hc5; omega) | (simp at hc5; done))
              all_goals
               try simp only [nrm] at hc5
               have hE0 : E p ≠ 0 := by first | omega | (simp at hc5; omega)
               refine wp_seq_k ?_; intro K36 hK36
               refine wlit ?_
               refine wl_v (x_move (tmI rfl rfl)) ?_
               refine wl_v (x_assign ev_c) ?_
               refine wl_v (x_assign (tmI rfl rfl)) ?_
               refine wl_nil ?_
               refine then_n (hK36 _ _ ?_); clear hK36 K36
               refine wp_ret ?_
               refine then_r ?_
               refine inb_r ?_
               refine then_r ?_
               refine inb_r ?_
               refine then_r ?_
               refine ret2 rfl (.tmp rfl (show _ = Value.slice _ _ _ from rfl)) (.tmp rfl (show _ = Value.int _ _ from rfl)) ?_
               first
                 | exact ⟨none, 0, 0, [], er, rfl, rfl, .inl ⟨h0, rfl, rfl⟩, NewV.nil_ _ _ _, (fun r hr => by cases hr), hS.kp⟩
                 | exact ⟨_, 1, _, [(cutA A 0 c 1, l.take n, c)], 0, rfl, rfl, .inr ⟨h0, .inl ⟨hle, rfl, rfl⟩⟩, (by
                     have hl1 : (l.take n).length = n := by rw [List.length_take]; omega
                     have h1 := viewB hS.ok (no_label_g5_4) rfl
                     show NewV _ _ _ [.slice (cutA A 0 c 1) (l.take n).length c]
                     rw [hl1]
                     exact ⟨h1, fun g hg => (hS.new (no_label_g5_4) rfl rfl).2.2 g hg⟩), (fun r hr => by
                     obtain rfl := List.mem_singleton.1 hr
                     exact viewV hS.ok (no_label_vq) rfl), hS.kp⟩
                 | exact ⟨none, 0, 0, [], 30, rfl, rfl, .inr ⟨h0, .inr ⟨hgt, .inl ⟨hst, rfl, rfl⟩⟩⟩, NewV.nil_ _ _ _, (fun r hr => by cases hr), hS.kp⟩
                 | exact ⟨none, 0, 0, [], 1, rfl, rfl, .inr ⟨h0, .inr ⟨hgt, .inr ⟨hst, .inl ⟨hlt, rfl, rfl⟩⟩⟩⟩, NewV.nil_ _ _ _, (fun r hr => by cases hr), hS.kp⟩
                 | exact ⟨none, 0, 0, [], E p, rfl, rfl, hRs _ _ (.inl ⟨hE0, rfl, k, by rw [← hp]; exact hlt, fun j hj => (hN j hj).2, by rw [← hp]⟩), NewV.nil_ _ _ _, (fun r hr => by cases hr), (hS0.leave [0, 1] [2, 3] rfl rfl rfl (hS.pick [2, 3] rfl rfl) rfl).kp⟩
                 | exact ⟨G, n', c', rows, 0, hn, rfl, hRs _ _ (.inr ⟨rfl, k, hR, by rw [← hp]; omega, hN⟩), hS.newv 2 rfl, (fun r hr => (haw r hr).1), hS.kp⟩
            try (exfalso; first | with_reducible exact absurd hc5 Bool.false_ne_true | with_reducible exact absurd hc5.symm Bool.false_ne_true | (simp only [nrm] at hc5; omega) | (simp at hc5; done))
            all_goals
             try simp only [nrm] at hc5
             have hE0 : E p = 0 := by first | omega | (simp at hc5; omega)
             refine wp_skip ?_
             refine then_n (hK34 _ _ ?_); clear hK34 K34
             refine wp_seq_k ?_; intro K37 hK37
             refine wlit ?_
             refine wl_v (x_move (tmS rfl rfl)) ?_
             refine wl_v (x_move (tmS rfl rfl)) ?_
             refine wl_e rfl ?_; intro K hK
             refine ow_build hS Try.underlying24 tz_22 (bc_take (tmS rfl rfl) <| bc_nil) rfl rfl (by kernel_rfl) ?_
             clear hS; intro g23_2 w hg23_2 hS
             refine hK _ _ ?_; clear hK K
             refine wl_e rfl ?_; intro K hK
             (refine ow_append hS 3 0 rfl rfl Try.underlying24 tz_22 rfl (tmS rfl rfl) (tmS rfl rfl) rfl ⟨by decide, by decide, rfl⟩ (by simp only [maxLen]; omega) (by omega) ?_; clear hS; intro g23_3 cg23_3 w hS)
             refine hK _ _ ?_; clear hK K
             refine wl_v (x_assign (tmS rfl rfl)) ?_
             refine wl_nil ?_
             refine then_n (hK37 _ _ ?_); clear hK37 K37
             refine wp_seq_k ?_; intro K38 hK38
             refine wlit ?_
             refine wl_v (x_move (tmS rfl rfl)) ?_
             refine wl_v (x_move (tmI rfl rfl)) ?_
             refine wl_v (x_sliceL Try.underlying22 ts_5 (tmS rfl rfl) (tmI rfl rfl) (by omega)) ?_
             refine wl_v (x_assign (tmS rfl rfl)) ?_
             refine wl_nil ?_
             refine then_n (hK38 _ _ ?_); clear hK38 K38
             refine wlit ?_
             refine wl_v (x_move (tmI rfl rfl)) ?_
             refine wl_v (x_move (tmI rfl rfl)) ?_
             first
              | refine wl_v (x_quoN (tmI rfl rfl) (ev_cN 8) (by omega) (fit_i64 (by omega))) ?_
              | refine wl_v (x_quo (tmI rfl rfl) (ev_cN 8) (by omega)) ?_
             first
              | refine wl_v (x_addN (tmI rfl rfl) (tmI rfl rfl) (fit_i64 (by omega))) ?_
              | refine wl_v (x_addI (tmI rfl rfl) (tmI rfl rfl) (IntWalk.i64_in _ (by omega))) ?_
              | refine wl_v (x_add (tmI rfl rfl) (tmI rfl rfl)) ?_
             refine wl_v (x_assign (tmI rfl rfl)) ?_
             refine wl_nil ?_
             refine inb_n ?_
             exact then_n ⟨_, _, rfl, (by show _ < _; omega), (by repeat (first | exact agree_self | exact agree_refl | refine agree_upd rfl ?_ | refine agree_mix rfl ?_)), k + 1, p + 8 * sp, q - m, ev + (8 * sp) / 8, cutA A' m c2 1, c2 - m, _, _, _, rows ++ [(A2, B p, c3)], rfl, (by first | rfl | go_num | exact congrArg (Value.int _) (by first | omega | (simp; done) | (simp; omega))), (by first | rfl | go_num | exact congrArg (Value.int _) (by first | omega | (simp; done) | (simp; omega))), (by first | rfl | go_num | exact congrArg (Value.int _) (by first | omega | (simp; done) | (simp; omega))), (by rw [hmap]; exact hS0.leave [0, 1] [2, 3] rfl rfl rfl (hS.pick [3, 4] rfl rfl) rfl), (by first | exact (Nat.zero_mul _).symm | exact hp1), (by omega), (by first | exact off_zero | exact hoff2), (by omega), (by first | omega | (rw [Nat.zero_div]; done)), (by omega), (by omega), (by first | rfl | omega), (by first | rfl | (rw [List.length_append, hn]; rfl)), (by first | rfl | exact hR2 A2 c3), (by first | exact hN2 hE0 | (intro j hj; omega)), (by first | exact Rws.nil | (rw [hmap]; exact (haw.step (hS.pick [3, 4] rfl rfl) rfl).snoc c3 (hS.pick [1, 3, 4] rfl rfl) rfl hlo))⟩
        try (exfalso; first | with_reducible exact absurd hc4 Bool.false_ne_true | with_reducible exact absurd hc4.symm Bool.false_ne_true | (simp only [nrm] at hc4; omega) | (simp at hc4; done))
        all_goals
         try simp only [nrm] at hc4
         refine wp_exit ?_
         refine then_x ?_; clear hK21 K21
         refine then_x ?_
         refine inb_x ?_
         refine then_n (hK20 _ _ ?_); clear hK20 K20
         refine wp_seq_k ?_; intro K39 hK39
         refine wlit ?_
         refine wl_v (x_move (tmS rfl rfl)) ?_
         refine wl_v (x_assign (tmS rfl rfl)) ?_
         refine wl_v (x_assign (ev_cN 0)) ?_
         refine wl_nil ?_
         refine then_n (hK39 _ _ ?_); clear hK39 K39
         refine wp_ret ?_
         refine ret2 rfl (.tmp rfl (show _ = Value.slice _ _ _ from rfl)) (.tmp rfl (show _ = Value.int _ _ from rfl)) ?_
         first
           | exact ⟨none, 0, 0, [], er, rfl, rfl, .inl ⟨h0, rfl, rfl⟩, NewV.nil_ _ _ _, (fun r hr => by cases hr), hS.kp⟩
           | exact ⟨_, 1, _, [(cutA A 0 c 1, l.take n, c)], 0, rfl, rfl, .inr ⟨h0, .inl ⟨hle, rfl, rfl⟩⟩, (by
               have hl1 : (l.take n).length = n := by rw [List.length_take]; omega
               have h1 := viewB hS.ok (no_label_g5_4) rfl
               show NewV _ _ _ [.slice (cutA A 0 c 1) (l.take n).length c]
               rw [hl1]
               exact ⟨h1, fun g hg => (hS.new (no_label_g5_4) rfl rfl).2.2 g hg⟩), (fun r hr => by
               obtain rfl := List.mem_singleton.1 hr
               exact viewV hS.ok (no_label_vq) rfl), hS.kp⟩
           | exact ⟨none, 0, 0, [], 30, rfl, rfl, .inr ⟨h0, .inr ⟨hgt, .inl ⟨hst, rfl, rfl⟩⟩⟩, NewV.nil_ _ _ _, (fun r hr => by cases hr), hS.kp⟩
           | exact ⟨none, 0, 0, [], 1, rfl, rfl, .inr ⟨h0, .inr ⟨hgt, .inr ⟨hst, .inl ⟨hlt, rfl, rfl⟩⟩⟩⟩, NewV.nil_ _ _ _, (fun r hr => by cases hr), hS.kp⟩
           | exact ⟨none, 0, 0, [], E p, rfl, rfl, hRs _ _ (.inl ⟨hE0, rfl, k, by rw [← hp]; exact hlt, fun j hj => (hN j hj).2, by rw [← hp]⟩), NewV.nil_ _ _ _, (fun r hr => by cases hr), (hS0.leave [0, 1] [2, 3] rfl rfl rfl (hS.pick [0, 1] rfl rfl) rfl).kp⟩
           | exact ⟨G, n', c', rows, 0, hn, rfl, hRs _ _ (.inr ⟨rfl, k, hR, by rw [← hp]; omega, hN⟩), hS.newv 0 rfl, (fun r hr => (haw r hr).1), hS.kp⟩
end Go.Proofs.Ytpibinkekfkafaa
