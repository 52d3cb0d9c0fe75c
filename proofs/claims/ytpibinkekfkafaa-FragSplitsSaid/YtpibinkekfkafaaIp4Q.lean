
/- ip4: the reference's Bytes and Packet, by contract. Conditions: none but bounds. -/
import Derived.Test.YtpibinkekfkafaaIp4P
namespace Go.Proofs.Ytpibinkekfkafaa
open Go.RowKit
set_option maxRecDepth 100000 in
set_option maxHeartbeats 8000000 in
theorem rip4_bytes_c (tos len id : Nat) (stay more : Bool) (off ttl proto sum sl dl : Nat) (O : Option Addr) (c : Nat) (o : List Nat) (w0 : World) (h1 : View w0 w0.heap.size O (o.map u8v)) (hob : Bytes o)
    (q1 : tos < 256) (q3 : id < 65536) (q7 : ttl < 256) (q8 : proto < 256) (hr : hdRight (len : Int) (off : Int) ⟨false, 0, sl⟩ ⟨false, 0, dl⟩ o.length) :
    Calls Try.prog 23 #[.agg (hdV tos (len : Int) id stay more (off : Int) ttl proto sum ⟨false, 0, sl⟩ ⟨false, 0, dl⟩ O o.length c).toArray] w0 fun e w' => ∃ A' n c', n = 20 + o.length ∧ e = .returned (.slice A' n c') ∧ New w0 w' (.row (.slice A' n c') 5 1 n ((hd4B tos len id (flN off stay more) ttl proto (hd4C tos len id (flN off stay more) ttl proto sl dl o) sl dl o).map u8v)) ∧ Kp [] w0 w' := by
  have hS := (St.sv w0).vcons rfl h1
  have hr' := hr
  obtain ⟨r1, r2, r3, r4, r5, r6, ⟨r7, _⟩, ⟨r8, _⟩⟩ := hr'
  have r7' : sl ≤ 4294967295 := by rcases r7 with h | h; cases h; exact h.2
  have r8' : dl ≤ 4294967295 := by rcases r8 with h | h; cases h; exact h.2
  have hls : adLim ⟨false, 0, sl⟩ := ⟨(by show (0 : Nat) ≤ _; omega), (by show sl ≤ _; omega)⟩
  have hld : adLim ⟨false, 0, dl⟩ := ⟨(by show (0 : Nat) ≤ _; omega), (by show dl ≤ _; omega)⟩
  obtain ⟨fl, hfl0⟩ : ∃ fl, fl = flN off stay more := ⟨_, rfl⟩
  have hfl : fl ≤ 32767 := by rw [hfl0]; unfold flN; cases stay <;> cases more <;> simp <;> omega
  rw [← hfl0]
  have hlen := hd4B_len tos len id fl ttl proto 0 sl dl o
  have hby := hd4B_bytes tos len id fl ttl proto 0 sl dl hob
  have hck := foldN_bd (psum (hd4B tos len id fl ttl proto 0 sl dl o) (20 + o.length))
  have hsum := hd4B_sum tos len id fl ttl proto (hd4C tos len id fl ttl proto sl dl o) sl dl o
  obtain ⟨ck, hck0⟩ : ∃ ck, ck = hd4C tos len id fl ttl proto sl dl o := ⟨_, rfl⟩
  rw [← hck0] at hsum ⊢
  have hjo : ∀ (G1 G2 G3 G4 G5 G6 G7 : Option Addr) (j1 j2 j3 j4 j5 j6 j7 : Nat), joined [(G1, [69 + o.length / 4, tos], j1), (G2, be len 2, j2), (G3, be id 2, j3), (G4, be fl 2, j4), (G5, [ttl, proto, 0, 0], j5), (G6, adB ⟨false, 0, sl⟩, j6), (G7, adB ⟨false, 0, dl⟩, j7), (O, o, c)] = hd4B tos len id fl ttl proto 0 sl dl o := by
    intro G1 G2 G3 G4 G5 G6 G7 j1 j2 j3 j4 j5 j6 j7
    have e1 : be (64 + (20 + o.length) / 4) 1 = [69 + o.length / 4] := by rw [be_one]; congr 1; omega
    have e2 : be tos 1 = [tos] := by rw [be_one]; congr 1; omega
    have e3 : be ttl 1 = [ttl] := by rw [be_one]; congr 1; omega
    have e4 : be proto 1 = [proto] := by rw [be_one]; congr 1; omega
    have e5 : be 0 2 = [0, 0] := by decide
    simp only [joined, hd4B, e1, e2, e3, e4, e5, adB4, List.map_cons, List.map_nil, List.flatten_cons, List.flatten_nil, List.append_nil, List.nil_append, List.append_assoc, List.cons_append]
  refine ent (n := 57) Try.func23 rfl rfl ?_
  refine wp_seq_k ?_; intro K1 hK1
  refine wlit ?_
  refine wl_e rfl ?_; intro K hK
  refine ow_box hS (tmA rfl rfl) rfl ?_
  clear hS; intro g0_0 w hg0_0 hS
  refine hK _ _ ?_; clear hK K
  refine wl_v (x_assign ev_c) ?_
  refine wl_nil ?_
  refine then_n (hK1 _ _ ?_); clear hK1 K1
  refine wp_seq_k ?_; intro K2 hK2
  refine wlit ?_
  refine wl_v (x_fa 5 Try.underlying41 rfl rfl ts_3 (tmP rfl rfl)) ?_
  first
   | refine wl_v (x_load Try.underlying3 rfl (tmP rfl rfl) (cellB hS.ok 0 rfl rfl)) ?_
   | refine wl_v (x_load Try.underlying3 rfl (tmP rfl rfl) (cellB hS.ok 0 rfl (getm (by omega)))) ?_
  first
   | refine wl_v (x_convN Try.underlying3 Try.underlying37 (tmI rfl rfl) (fit_u64 (by omega))) ?_
   | refine wl_v (x_convU Try.underlying3 Try.underlying37 (tmI rfl rfl) rfl) ?_
   | refine wl_v (x_conv Try.underlying3 Try.underlying37 (tmI rfl rfl)) ?_
  refine wl_v (x_assign (tmI rfl rfl)) ?_
  refine wl_nil ?_
  refine then_n (hK2 _ _ ?_); clear hK2 K2
  refine wp_seq_k ?_; intro K3 hK3
  refine wp_seq_k ?_; intro K4 hK4
  refine wlit ?_
  refine wl_v (x_fa 3 Try.underlying41 rfl rfl ts_4 (tmP rfl rfl)) ?_
  first
   | refine wl_v (x_load Try.underlying4 rfl (tmP rfl rfl) (cellB hS.ok 0 rfl rfl)) ?_
   | refine wl_v (x_load Try.underlying4 rfl (tmP rfl rfl) (cellB hS.ok 0 rfl (getm (by omega)))) ?_
  refine wl_nil ?_
  refine then_n (hK4 _ _ ?_); clear hK4 K4
  refine cutc [3, 10, 11] (fun g w => g 3 = .int .u64 ((off + cond stay 16384 0 : Nat) : Int) ∧ St [] w0 [.blk g0_0 41 (hdV tos (len : Int) id stay more (off : Int) ttl proto sum ⟨false, 0, sl⟩ ⟨false, 0, dl⟩ O o.length c), .vw O (o.map u8v)] w) ?_ ?_
  · skip
    refine cnd (tm rfl) (fun hc0 => ?_) (fun hc0 => ?_)
    · try (exfalso; first | with_reducible exact absurd hc0 Bool.false_ne_true | with_reducible exact absurd hc0.symm Bool.false_ne_true | (simp only [nrm] at hc0; omega) | (simp at hc0; done))
      all_goals
       try simp only [nrm] at hc0
       refine wlit ?_
       refine wl_v (x_move (tmI rfl rfl)) ?_
       first
        | refine wl_v (x_addN (tmI rfl rfl) (ev_cN 16384) (fit_u64 (by omega))) ?_
        | refine wl_v (x_addI (tmI rfl rfl) (ev_cN 16384) (IntWalk.u64_in _ (by omega))) ?_
        | refine wl_v (x_addU (tmI rfl rfl) (ev_cN 16384) rfl) ?_
        | refine wl_v (x_add (tmI rfl rfl) (ev_cN 16384)) ?_
       refine wl_v (x_assign (tmI rfl rfl)) ?_
       refine wl_nil ?_
       exact then_n ⟨_, rfl, (by repeat (first | exact agree_self | exact agree_refl | refine agree_upd rfl ?_ | refine agree_mix rfl ?_)), (by first | rfl | (subst stay; done) | (subst stay; rfl) | (subst stay; go_num)), hS⟩
    try (exfalso; first | with_reducible exact absurd hc0 Bool.false_ne_true | with_reducible exact absurd hc0.symm Bool.false_ne_true | (simp only [nrm] at hc0; omega) | (simp at hc0; done))
    all_goals
     try simp only [nrm] at hc0
     refine wp_skip ?_
     exact then_n ⟨_, rfl, (by repeat (first | exact agree_self | exact agree_refl | refine agree_upd rfl ?_ | refine agree_mix rfl ?_)), (by first | rfl | (subst stay; done) | (subst stay; rfl) | (subst stay; go_num)), hS⟩
  · clear hS; intro g w hI
    obtain ⟨hs3, hS⟩ := hI
    refine fr_knowQ (d := 3) hs3 ?_; clear hs3
    refine then_n (hK3 _ _ ?_); clear hK3 K3
    refine wp_seq_k ?_; intro K6 hK6
    refine wp_seq_k ?_; intro K7 hK7
    refine wlit ?_
    refine wl_v (x_fa 4 Try.underlying41 rfl rfl ts_4 (tmP rfl rfl)) ?_
    first
     | refine wl_v (x_load Try.underlying4 rfl (tmP rfl rfl) (cellB hS.ok 0 rfl rfl)) ?_
     | refine wl_v (x_load Try.underlying4 rfl (tmP rfl rfl) (cellB hS.ok 0 rfl (getm (by omega)))) ?_
    refine wl_nil ?_
    refine then_n (hK7 _ _ ?_); clear hK7 K7
    refine cutc [3, 14, 15] (fun g w => g 3 = .int .u64 ((fl : Nat) : Int) ∧ St [] w0 [.blk g0_0 41 (hdV tos (len : Int) id stay more (off : Int) ttl proto sum ⟨false, 0, sl⟩ ⟨false, 0, dl⟩ O o.length c), .vw O (o.map u8v)] w) ?_ ?_
    · skip
      refine cnd (tm rfl) (fun hc1 => ?_) (fun hc1 => ?_)
      · try (exfalso; first | with_reducible exact absurd hc1 Bool.false_ne_true | with_reducible exact absurd hc1.symm Bool.false_ne_true | (simp only [nrm] at hc1; omega) | (simp at hc1; done))
        all_goals
         try simp only [nrm] at hc1
         have hcs : cond stay 16384 0 ≤ 16384 := by cases stay <;> simp
         refine wlit ?_
         refine wl_v (x_move (tmI rfl rfl)) ?_
         first
          | refine wl_v (x_addN (tmI rfl rfl) (ev_cN 8192) (fit_u64 (by omega))) ?_
          | refine wl_v (x_addI (tmI rfl rfl) (ev_cN 8192) (IntWalk.u64_in _ (by omega))) ?_
          | refine wl_v (x_addU (tmI rfl rfl) (ev_cN 8192) rfl) ?_
          | refine wl_v (x_add (tmI rfl rfl) (ev_cN 8192)) ?_
         refine wl_v (x_assign (tmI rfl rfl)) ?_
         refine wl_nil ?_
         exact then_n ⟨_, rfl, (by repeat (first | exact agree_self | exact agree_refl | refine agree_upd rfl ?_ | refine agree_mix rfl ?_)), (by first | rfl | (rw [hfl0]; unfold flN; subst more; done) | (rw [hfl0]; unfold flN; subst more; rfl) | (rw [hfl0]; unfold flN; subst more; go_num)), hS⟩
      try (exfalso; first | with_reducible exact absurd hc1 Bool.false_ne_true | with_reducible exact absurd hc1.symm Bool.false_ne_true | (simp only [nrm] at hc1; omega) | (simp at hc1; done))
      all_goals
       try simp only [nrm] at hc1
       have hcs : cond stay 16384 0 ≤ 16384 := by cases stay <;> simp
       refine wp_skip ?_
       exact then_n ⟨_, rfl, (by repeat (first | exact agree_self | exact agree_refl | refine agree_upd rfl ?_ | refine agree_mix rfl ?_)), (by first | rfl | (rw [hfl0]; unfold flN; subst more; done) | (rw [hfl0]; unfold flN; subst more; rfl) | (rw [hfl0]; unfold flN; subst more; go_num)), hS⟩
    · clear hS; intro g w hI
      obtain ⟨hs3, hS⟩ := hI
      refine fr_knowQ (d := 3) hs3 ?_; clear hs3
      refine then_n (hK6 _ _ ?_); clear hK6 K6
      refine wp_seq_k ?_; intro K9 hK9
      refine wlit ?_
      refine wl_v (x_fa 15 Try.underlying41 rfl rfl ts_22 (tmP rfl rfl)) ?_
      first
       | refine wl_v (x_load Try.underlying22 rfl (tmP rfl rfl) (cellB hS.ok 0 rfl rfl)) ?_
       | refine wl_v (x_load Try.underlying22 rfl (tmP rfl rfl) (cellB hS.ok 0 rfl (getm (by omega)))) ?_
      refine wl_v (x_len Try.underlying22 (tmS rfl rfl)) ?_
      first
       | refine wl_v (x_quoN (tmI rfl rfl) (ev_cN 4) (by omega) (fit_i64 (by omega))) ?_
       | refine wl_v (x_quo (tmI rfl rfl) (ev_cN 4) (by omega)) ?_
      first
       | refine wl_v (x_addN (ev_cN 69) (tmI rfl rfl) (fit_i64 (by omega))) ?_
       | refine wl_v (x_addI (ev_cN 69) (tmI rfl rfl) (IntWalk.i64_in _ (by omega))) ?_
       | refine wl_v (x_add (ev_cN 69) (tmI rfl rfl)) ?_
      first
       | refine wl_v (x_convN Try.underlying3 Try.underlying5 (tmI rfl rfl) (fit_u8 (by omega))) ?_
       | refine wl_v (x_convU Try.underlying3 Try.underlying5 (tmI rfl rfl) rfl) ?_
       | refine wl_v (x_conv Try.underlying3 Try.underlying5 (tmI rfl rfl)) ?_
      refine wl_v (x_fa 0 Try.underlying41 rfl rfl ts_5 (tmP rfl rfl)) ?_
      first
       | refine wl_v (x_load Try.underlying5 rfl (tmP rfl rfl) (cellB hS.ok 0 rfl rfl)) ?_
       | refine wl_v (x_load Try.underlying5 rfl (tmP rfl rfl) (cellB hS.ok 0 rfl (getm (by omega)))) ?_
      refine wl_e rfl ?_; intro K hK
      refine ow_build hS Try.underlying22 tz_5 (bc_take (tmI rfl rfl) <| bc_take (tmI rfl rfl) <| bc_nil) rfl rfl (by kernel_rfl) ?_
      clear hS; intro g6_8 w hg6_8 hS
      refine hK _ _ ?_; clear hK K
      refine wl_v (x_assign (tmS rfl rfl)) ?_
      refine wl_nil ?_
      refine then_n (hK9 _ _ ?_); clear hK9 K9
      refine wp_seq_k ?_; intro K10 hK10
      refine rg_startk 0 hS mixed_ ?_
      clear hS; intro w hS
      refine rg_take 0 rfl rfl (by kernel_rfl) (by kernel_rfl) (by kernel_rfl) (want_0) (fun w hok => x_move (tmS rfl rfl)) ?_
      refine rg_take 1 rfl rfl (by kernel_rfl) (by kernel_rfl) (by kernel_rfl) (want_0) (fun w hok => x_fa 1 Try.underlying41 rfl rfl ts_3 (tmP rfl rfl)) ?_
      first
       | refine rg_take 2 rfl rfl (by kernel_rfl) (by kernel_rfl) (by kernel_rfl) (want_0) (fun w hok => x_load Try.underlying3 rfl (tmP rfl rfl) (cellB hok 1 rfl rfl)) ?_
       | refine rg_take 2 rfl rfl (by kernel_rfl) (by kernel_rfl) (by kernel_rfl) (want_0) (fun w hok => x_load Try.underlying3 rfl (tmP rfl rfl) (cellB hok 1 rfl (getm (by omega)))) ?_
      first
       | refine rg_take 3 rfl rfl (by kernel_rfl) (by kernel_rfl) (by kernel_rfl) (want_0) (fun w hok => x_convN Try.underlying3 Try.underlying37 (tmI rfl rfl) (fit_u64 (by omega))) ?_
       | refine rg_take 3 rfl rfl (by kernel_rfl) (by kernel_rfl) (by kernel_rfl) (want_0) (fun w hok => x_convU Try.underlying3 Try.underlying37 (tmI rfl rfl) rfl) ?_
       | refine rg_take 3 rfl rfl (by kernel_rfl) (by kernel_rfl) (by kernel_rfl) (want_0) (fun w hok => x_conv Try.underlying3 Try.underlying37 (tmI rfl rfl)) ?_
      refine rg_take 5 rfl rfl (by kernel_rfl) (by kernel_rfl) (by kernel_rfl) (want_0) (fun w hok => x_fa 2 Try.underlying41 rfl rfl ts_36 (tmP rfl rfl)) ?_
      first
       | refine rg_take 6 rfl rfl (by kernel_rfl) (by kernel_rfl) (by kernel_rfl) (want_0) (fun w hok => x_load Try.underlying36 rfl (tmP rfl rfl) (cellB hok 1 rfl rfl)) ?_
       | refine rg_take 6 rfl rfl (by kernel_rfl) (by kernel_rfl) (by kernel_rfl) (want_0) (fun w hok => x_load Try.underlying36 rfl (tmP rfl rfl) (cellB hok 1 rfl (getm (by omega)))) ?_
      first
       | refine rg_take 7 rfl rfl (by kernel_rfl) (by kernel_rfl) (by kernel_rfl) (want_0) (fun w hok => x_convN Try.underlying36 Try.underlying37 (tmI rfl rfl) (fit_u64 (by omega))) ?_
       | refine rg_take 7 rfl rfl (by kernel_rfl) (by kernel_rfl) (by kernel_rfl) (want_0) (fun w hok => x_convU Try.underlying36 Try.underlying37 (tmI rfl rfl) rfl) ?_
       | refine rg_take 7 rfl rfl (by kernel_rfl) (by kernel_rfl) (by kernel_rfl) (want_0) (fun w hok => x_conv Try.underlying36 Try.underlying37 (tmI rfl rfl)) ?_
      refine rg_take 9 rfl rfl (by kernel_rfl) (by kernel_rfl) (by kernel_rfl) (want_0) (fun w hok => x_move (tmI rfl rfl)) ?_
      refine rg_take 11 rfl rfl (by kernel_rfl) (by kernel_rfl) (by kernel_rfl) (want_0) (fun w hok => x_fa 6 Try.underlying41 rfl rfl ts_5 (tmP rfl rfl)) ?_
      first
       | refine rg_take 12 rfl rfl (by kernel_rfl) (by kernel_rfl) (by kernel_rfl) (want_0) (fun w hok => x_load Try.underlying5 rfl (tmP rfl rfl) (cellB hok 1 rfl rfl)) ?_
       | refine rg_take 12 rfl rfl (by kernel_rfl) (by kernel_rfl) (by kernel_rfl) (want_0) (fun w hok => x_load Try.underlying5 rfl (tmP rfl rfl) (cellB hok 1 rfl (getm (by omega)))) ?_
      refine rg_take 13 rfl rfl (by kernel_rfl) (by kernel_rfl) (by kernel_rfl) (want_0) (fun w hok => x_fa 7 Try.underlying41 rfl rfl ts_5 (tmP rfl rfl)) ?_
      first
       | refine rg_take 14 rfl rfl (by kernel_rfl) (by kernel_rfl) (by kernel_rfl) (want_0) (fun w hok => x_load Try.underlying5 rfl (tmP rfl rfl) (cellB hok 1 rfl rfl)) ?_
       | refine rg_take 14 rfl rfl (by kernel_rfl) (by kernel_rfl) (by kernel_rfl) (want_0) (fun w hok => x_load Try.underlying5 rfl (tmP rfl rfl) (cellB hok 1 rfl (getm (by omega)))) ?_
      refine rg_take 16 rfl rfl (by kernel_rfl) (by kernel_rfl) (by kernel_rfl) (want_0) (fun w hok => x_fa 9 Try.underlying41 rfl rfl ts_39 (tmP rfl rfl)) ?_
      refine rg_take 17 rfl rfl (by kernel_rfl) (by kernel_rfl) (by kernel_rfl) (want_0) (fun w hok => x_loadA (cs := [_, _, _]) Try.underlying39 rfl ts_39 (tmP rfl rfl) (rangeB hok 1 rfl rfl)) ?_
      refine rg_take 19 rfl rfl (by kernel_rfl) (by kernel_rfl) (by kernel_rfl) (want_0) (fun w hok => x_fa 12 Try.underlying41 rfl rfl ts_39 (tmP rfl rfl)) ?_
      refine rg_take 20 rfl rfl (by kernel_rfl) (by kernel_rfl) (by kernel_rfl) (want_0) (fun w hok => x_loadA (cs := [_, _, _]) Try.underlying39 rfl ts_39 (tmP rfl rfl) (rangeB hok 1 rfl rfl)) ?_
      refine rg_take 22 rfl rfl (by kernel_rfl) (by kernel_rfl) (by kernel_rfl) (want_0) (fun w hok => x_fa 15 Try.underlying41 rfl rfl ts_22 (tmP rfl rfl)) ?_
      first
       | refine rg_take 23 rfl rfl (by kernel_rfl) (by kernel_rfl) (by kernel_rfl) (want_0) (fun w hok => x_load Try.underlying22 rfl (tmP rfl rfl) (cellB hok 1 rfl rfl)) ?_
       | refine rg_take 23 rfl rfl (by kernel_rfl) (by kernel_rfl) (by kernel_rfl) (want_0) (fun w hok => x_load Try.underlying22 rfl (tmP rfl rfl) (cellB hok 1 rfl (getm (by omega)))) ?_
      refine rg_step2 4 15 rfl rfl (by kernel_rfl) (want_0) (want_0) (oks_drop hS 0 rfl) ?_ ?_
      · intro K hK
        refine ow_call Try.func39 rfl rfl (evs_cons (tmI rfl rfl) <| evs_cons (ev_cN 2) <| evs_nil) (rbytes_c len 2 _ (by omega) (by omega)) ?_
        rintro e w ⟨ga, rfl, hn, hk⟩
        refine ⟨_, rfl, ?_⟩
        replace hS := hS.add hk hn -- +rowa
        clear hn hk
        refine hK _ _ ?_; clear hK K
        refine rg_step2 8 15 rfl rfl (by kernel_rfl) (want_0) (want_0) (oks_drop hS 1 rfl) ?_ ?_
        · intro K hK
          refine ow_call Try.func39 rfl rfl (evs_cons (tmI rfl rfl) <| evs_cons (ev_cN 2) <| evs_nil) (rbytes_c id 2 _ (by omega) (by omega)) ?_
          rintro e w ⟨gb, rfl, hn, hk⟩
          refine ⟨_, rfl, ?_⟩
          replace hS := hS.add hk hn -- +rowb
          clear hn hk
          refine hK _ _ ?_; clear hK K
          refine rg_step2 10 15 rfl rfl (by kernel_rfl) (want_0) (want_0) (oks_drop hS 2 rfl) ?_ ?_
          · intro K hK
            refine ow_call Try.func39 rfl rfl (evs_cons (tmI rfl rfl) <| evs_cons (ev_cN 2) <| evs_nil) (rbytes_c fl 2 _ (by omega) (by omega)) ?_
            rintro e w ⟨gc, rfl, hn, hk⟩
            refine ⟨_, rfl, ?_⟩
            replace hS := hS.add hk hn -- +rowc
            clear hn hk
            refine hK _ _ ?_; clear hK K
            refine rg_step2 15 18 rfl rfl (by kernel_rfl) (want_0) (want_0) (oks_drop hS 3 rfl) ?_ ?_
            · intro K hK
              refine ow_build hS Try.underlying22 tz_5 (bc_take (tmI rfl rfl) <| bc_take (tmI rfl rfl) <| bc_take (ev_cN 0) <| bc_take (ev_cN 0) <| bc_nil) rfl rfl (by kernel_rfl) ?_
              clear hS; intro g7_15 w hg7_15 hS
              refine hK _ _ ?_; clear hK K
              refine rg_step 18 rfl (by kernel_rfl) (want_0) (oks_drop hS 4 rfl) ?_; intro K hK
              refine ow_call Try.func40 rfl rfl (evs_cons (tmA rfl rfl) <| evs_nil) (rad_bytes_c _ _ hls) ?_
              rintro e w ⟨Ad, nd, cd, hnd, rfl, hn, hk⟩
              refine ⟨_, rfl, ?_⟩
              obtain rfl : nd = 4 := hnd
              replace hS := hS.add hk hn -- +rowd
              clear hn hk
              refine hK _ _ ?_; clear hK K
              refine rg_step 21 rfl (by kernel_rfl) (want_0) (oks_drop hS 5 rfl) ?_; intro K hK
              refine ow_call Try.func40 rfl rfl (evs_cons (tmA rfl rfl) <| evs_nil) (rad_bytes_c _ _ hld) ?_
              rintro e w ⟨Ae, ne, ce, hne, rfl, hn, hk⟩
              refine ⟨_, rfl, ?_⟩
              obtain rfl : ne = 4 := hne
              replace hS := hS.add hk hn -- +rowe
              clear hn hk
              refine hK _ _ ?_; clear hK K
              refine rg_step 24 rfl (by kernel_rfl) (want_0) (oks_drop hS 6 rfl) ?_; intro K hK
              refine ow_build hS Try.underlying24 tz_22 (bc_take (tmS rfl rfl) <| bc_take (tmS rfl rfl) <| bc_take (tmS rfl rfl) <| bc_take (tmS rfl rfl) <| bc_take (tmS rfl rfl) <| bc_take (tmS rfl rfl) <| bc_take (tmS rfl rfl) <| bc_take (tmS rfl rfl) <| bc_nil) rfl rfl (by kernel_rfl) ?_
              clear hS; intro g7_24 w hg7_24 hS
              refine hK _ _ ?_; clear hK K
              refine rg_step 25 rfl (by kernel_rfl) (want_0) (oks_drop hS 7 rfl) ?_; intro K hK
              refine ow_call Try.func38 rfl rfl (evs_cons (tmS rfl rfl) <| evs_nil) (join_c 8 _ _ [(some ⟨g6_8, 0, none⟩, [69 + o.length / 4, tos], 2), (some ⟨ga, 0, none⟩, be len 2, 2), (some ⟨gb, 0, none⟩, be id 2, 2), (some ⟨gc, 0, none⟩, be fl 2, 2), (some ⟨g7_15, 0, none⟩, [ttl, proto, 0, 0], 4), (Ad, adB ⟨false, 0, sl⟩, cd), (Ae, adB ⟨false, 0, dl⟩, ce), (O, o, c)] _ (viewB hS.ok 0 rfl) (seen_cons (viewB hS.ok 7 rfl) <| seen_cons (viewR hS.ok 6 rfl) <| seen_cons (viewR hS.ok 5 rfl) <| seen_cons (viewR hS.ok 4 rfl) <| seen_cons (viewB hS.ok 3 rfl) <| seen_cons (viewR hS.ok 2 rfl) <| seen_cons (viewR hS.ok 1 rfl) <| seen_cons (viewV hS.ok 9 rfl) seen_nil) rfl (by omega) (by rw [hjo, hlen]; omega)) ?_
              rintro e w ⟨Aj, mj, cj, hmj, rfl, hn, hk⟩
              refine ⟨_, rfl, ?_⟩
              rw [hjo] at hn hmj
              rw [hlen] at hmj
              replace hS := hS.add hk hn -- +rowj
              clear hn hk
              refine hK _ _ ?_; clear hK K
              refine rg_take 26 rfl rfl (by kernel_rfl) (by kernel_rfl) (by kernel_rfl) (want_0) (fun w hok => x_assign (tmS rfl rfl)) ?_
              refine rg_done (oks_drop hS 8 rfl) (by kernel_rfl) ?_
              refine then_n (hK10 _ _ ?_); clear hK10 K10
              refine wp_seq_k ?_; intro K11 hK11
              refine wlit ?_
              refine wl_v (x_move (tmS rfl rfl)) ?_
              refine wl_v (x_move (tmS rfl rfl)) ?_
              refine wl_e rfl ?_; intro K hK
              refine ow_call Try.func21 rfl rfl (evs_cons (tmS rfl rfl) <| evs_nil) (rsum_of_c mj _ _ _ _ (viewR hS.ok 0 rfl) (by rw [hlen, hmj]) hby (by omega)) ?_
              rintro e w ⟨rfl, hk⟩
              refine ⟨_, rfl, ?_⟩
              have eck : 65535 - foldN (psum (hd4B tos len id fl ttl proto 0 sl dl o) mj) = ck := by rw [hmj]; exact hck0.symm
              have hck9 := foldN_bd (psum (hd4B tos len id fl ttl proto 0 sl dl o) mj)
              replace hS := hS.kept hk
              clear hk
              refine hK _ _ ?_; clear hK K
              refine wl_v (x_convN Try.underlying36 Try.underlying37 (tmI rfl (congrArg (fun q : Nat => Value.int .u16 (q : Int)) eck)) (fit_u64 (by omega))) ?_
              refine wl_e rfl ?_; intro K hK
              refine ow_call Try.func39 rfl rfl (evs_cons (tmI rfl rfl) <| evs_cons (ev_cN 2) <| evs_nil) (rbytes_c ck 2 _ (by omega) (by omega)) ?_
              rintro e w ⟨gk, rfl, hn, hk⟩
              refine ⟨_, rfl, ?_⟩
              replace hS := hS.add hk hn -- +rowk
              clear hn hk
              refine hK _ _ ?_; clear hK K
              refine wl_e rfl ?_; intro K hK
              refine ow_call Try.func41 rfl rfl (evs_cons (tmS rfl rfl) <| evs_cons (ev_cN 10) <| evs_cons (tmS rfl rfl) <| evs_nil) (rset_c mj _ _ _ 10 2 _ _ _ _ (viewR hS.ok 1 rfl) (by rw [hlen, hmj]) (by omega) (viewR hS.ok 0 rfl) (be_length _ _) (by omega)) ?_
              rintro e w ⟨Az, cz, rfl, hn, hk⟩
              refine ⟨_, rfl, ?_⟩
              rw [hsum] at hn
              replace hS := hS.add hk hn -- +rowz
              clear hn hk
              refine hK _ _ ?_; clear hK K
              refine wl_v (x_assign (tmS rfl rfl)) ?_
              refine wl_nil ?_
              refine then_n (hK11 _ _ ?_); clear hK11 K11
              refine wp_ret ?_
              refine ret1 rfl (.tmp rfl (show _ = Value.slice _ _ _ from rfl)) ?_
              exact ⟨_, _, _, hmj, rfl, hS.new 0 rfl rfl, hS.kp⟩
            · intro K hK
              refine ow_call Try.func40 rfl rfl (evs_cons (tmA rfl rfl) <| evs_nil) (rad_bytes_c _ _ hls) ?_
              rintro e w ⟨Ad, nd, cd, hnd, rfl, hn, hk⟩
              refine ⟨_, rfl, ?_⟩
              obtain rfl : nd = 4 := hnd
              replace hS := hS.add hk hn -- +rowd
              clear hn hk
              refine hK _ _ ?_; clear hK K
              refine rg_step2 15 21 rfl rfl (by kernel_rfl) (want_0) (want_0) (oks_drop hS 4 rfl) ?_ ?_
              · intro K hK
                refine ow_build hS Try.underlying22 tz_5 (bc_take (tmI rfl rfl) <| bc_take (tmI rfl rfl) <| bc_take (ev_cN 0) <| bc_take (ev_cN 0) <| bc_nil) rfl rfl (by kernel_rfl) ?_
                clear hS; intro g7_15 w hg7_15 hS
                refine hK _ _ ?_; clear hK K
                refine rg_step 21 rfl (by kernel_rfl) (want_0) (oks_drop hS 5 rfl) ?_; intro K hK
                refine ow_call Try.func40 rfl rfl (evs_cons (tmA rfl rfl) <| evs_nil) (rad_bytes_c _ _ hld) ?_
                rintro e w ⟨Ae, ne, ce, hne, rfl, hn, hk⟩
                refine ⟨_, rfl, ?_⟩
                obtain rfl : ne = 4 := hne
                replace hS := hS.add hk hn -- +rowe
                clear hn hk
                refine hK _ _ ?_; clear hK K
                refine rg_step 24 rfl (by kernel_rfl) (want_0) (oks_drop hS 6 rfl) ?_; intro K hK
                refine ow_build hS Try.underlying24 tz_22 (bc_take (tmS rfl rfl) <| bc_take (tmS rfl rfl) <| bc_take (tmS rfl rfl) <| bc_take (tmS rfl rfl) <| bc_take (tmS rfl rfl) <| bc_take (tmS rfl rfl) <| bc_take (tmS rfl rfl) <| bc_take (tmS rfl rfl) <| bc_nil) rfl rfl (by kernel_rfl) ?_
                clear hS; intro g7_24 w hg7_24 hS
                refine hK _ _ ?_; clear hK K
                refine rg_step 25 rfl (by kernel_rfl) (want_0) (oks_drop hS 7 rfl) ?_; intro K hK
                refine ow_call Try.func38 rfl rfl (evs_cons (tmS rfl rfl) <| evs_nil) (join_c 8 _ _ [(some ⟨g6_8, 0, none⟩, [69 + o.length / 4, tos], 2), (some ⟨ga, 0, none⟩, be len 2, 2), (some ⟨gb, 0, none⟩, be id 2, 2), (some ⟨gc, 0, none⟩, be fl 2, 2), (some ⟨g7_15, 0, none⟩, [ttl, proto, 0, 0], 4), (Ad, adB ⟨false, 0, sl⟩, cd), (Ae, adB ⟨false, 0, dl⟩, ce), (O, o, c)] _ (viewB hS.ok 0 rfl) (seen_cons (viewB hS.ok 7 rfl) <| seen_cons (viewR hS.ok 6 rfl) <| seen_cons (viewR hS.ok 5 rfl) <| seen_cons (viewR hS.ok 4 rfl) <| seen_cons (viewB hS.ok 2 rfl) <| seen_cons (viewR hS.ok 3 rfl) <| seen_cons (viewR hS.ok 1 rfl) <| seen_cons (viewV hS.ok 9 rfl) seen_nil) rfl (by omega) (by rw [hjo, hlen]; omega)) ?_
                rintro e w ⟨Aj, mj, cj, hmj, rfl, hn, hk⟩
                refine ⟨_, rfl, ?_⟩
                rw [hjo] at hn hmj
                rw [hlen] at hmj
                replace hS := hS.add hk hn -- +rowj
                clear hn hk
                refine hK _ _ ?_; clear hK K
                refine rg_take 26 rfl rfl (by kernel_rfl) (by kernel_rfl) (by kernel_rfl) (want_0) (fun w hok => x_assign (tmS rfl rfl)) ?_
                refine rg_done (oks_drop hS 8 rfl) (by kernel_rfl) ?_
                refine then_n (hK10 _ _ ?_); clear hK10 K10
                refine wp_seq_k ?_; intro K12 hK12
                refine wlit ?_
                refine wl_v (x_move (tmS rfl rfl)) ?_
                refine wl_v (x_move (tmS rfl rfl)) ?_
                refine wl_e rfl ?_; intro K hK
                refine ow_call Try.func21 rfl rfl (evs_cons (tmS rfl rfl) <| evs_nil) (rsum_of_c mj _ _ _ _ (viewR hS.ok 0 rfl) (by rw [hlen, hmj]) hby (by omega)) ?_
                rintro e w ⟨rfl, hk⟩
                refine ⟨_, rfl, ?_⟩
                have eck : 65535 - foldN (psum (hd4B tos len id fl ttl proto 0 sl dl o) mj) = ck := by rw [hmj]; exact hck0.symm
                have hck9 := foldN_bd (psum (hd4B tos len id fl ttl proto 0 sl dl o) mj)
                replace hS := hS.kept hk
                clear hk
                refine hK _ _ ?_; clear hK K
                refine wl_v (x_convN Try.underlying36 Try.underlying37 (tmI rfl (congrArg (fun q : Nat => Value.int .u16 (q : Int)) eck)) (fit_u64 (by omega))) ?_
                refine wl_e rfl ?_; intro K hK
                refine ow_call Try.func39 rfl rfl (evs_cons (tmI rfl rfl) <| evs_cons (ev_cN 2) <| evs_nil) (rbytes_c ck 2 _ (by omega) (by omega)) ?_
                rintro e w ⟨gk, rfl, hn, hk⟩
                refine ⟨_, rfl, ?_⟩
                replace hS := hS.add hk hn -- +rowk
                clear hn hk
                refine hK _ _ ?_; clear hK K
                refine wl_e rfl ?_; intro K hK
                refine ow_call Try.func41 rfl rfl (evs_cons (tmS rfl rfl) <| evs_cons (ev_cN 10) <| evs_cons (tmS rfl rfl) <| evs_nil) (rset_c mj _ _ _ 10 2 _ _ _ _ (viewR hS.ok 1 rfl) (by rw [hlen, hmj]) (by omega) (viewR hS.ok 0 rfl) (be_length _ _) (by omega)) ?_
                rintro e w ⟨Az, cz, rfl, hn, hk⟩
                refine ⟨_, rfl, ?_⟩
                rw [hsum] at hn
                replace hS := hS.add hk hn -- +rowz
                clear hn hk
                refine hK _ _ ?_; clear hK K
                refine wl_v (x_assign (tmS rfl rfl)) ?_
                refine wl_nil ?_
                refine then_n (hK12 _ _ ?_); clear hK12 K12
                refine wp_ret ?_
                refine ret1 rfl (.tmp rfl (show _ = Value.slice _ _ _ from rfl)) ?_
                exact ⟨_, _, _, hmj, rfl, hS.new 0 rfl rfl, hS.kp⟩
              · intro K hK
                refine ow_call Try.func40 rfl rfl (evs_cons (tmA rfl rfl) <| evs_nil) (rad_bytes_c _ _ hld) ?_
                rintro e w ⟨Ae, ne, ce, hne, rfl, hn, hk⟩
                refine ⟨_, rfl, ?_⟩
                obtain rfl : ne = 4 := hne
                replace hS := hS.add hk hn -- +rowe
                clear hn hk
                refine hK _ _ ?_; clear hK K
                refine rg_step 15 rfl (by kernel_rfl) (want_0) (oks_drop hS 5 rfl) ?_; intro K hK
                refine ow_build hS Try.underlying22 tz_5 (bc_take (tmI rfl rfl) <| bc_take (tmI rfl rfl) <| bc_take (ev_cN 0) <| bc_take (ev_cN 0) <| bc_nil) rfl rfl (by kernel_rfl) ?_
                clear hS; intro g7_15 w hg7_15 hS
                refine hK _ _ ?_; clear hK K
                refine rg_step 24 rfl (by kernel_rfl) (want_0) (oks_drop hS 6 rfl) ?_; intro K hK
                refine ow_build hS Try.underlying24 tz_22 (bc_take (tmS rfl rfl) <| bc_take (tmS rfl rfl) <| bc_take (tmS rfl rfl) <| bc_take (tmS rfl rfl) <| bc_take (tmS rfl rfl) <| bc_take (tmS rfl rfl) <| bc_take (tmS rfl rfl) <| bc_take (tmS rfl rfl) <| bc_nil) rfl rfl (by kernel_rfl) ?_
                clear hS; intro g7_24 w hg7_24 hS
                refine hK _ _ ?_; clear hK K
                refine rg_step 25 rfl (by kernel_rfl) (want_0) (oks_drop hS 7 rfl) ?_; intro K hK
                refine ow_call Try.func38 rfl rfl (evs_cons (tmS rfl rfl) <| evs_nil) (join_c 8 _ _ [(some ⟨g6_8, 0, none⟩, [69 + o.length / 4, tos], 2), (some ⟨ga, 0, none⟩, be len 2, 2), (some ⟨gb, 0, none⟩, be id 2, 2), (some ⟨gc, 0, none⟩, be fl 2, 2), (some ⟨g7_15, 0, none⟩, [ttl, proto, 0, 0], 4), (Ad, adB ⟨false, 0, sl⟩, cd), (Ae, adB ⟨false, 0, dl⟩, ce), (O, o, c)] _ (viewB hS.ok 0 rfl) (seen_cons (viewB hS.ok 7 rfl) <| seen_cons (viewR hS.ok 6 rfl) <| seen_cons (viewR hS.ok 5 rfl) <| seen_cons (viewR hS.ok 4 rfl) <| seen_cons (viewB hS.ok 1 rfl) <| seen_cons (viewR hS.ok 3 rfl) <| seen_cons (viewR hS.ok 2 rfl) <| seen_cons (viewV hS.ok 9 rfl) seen_nil) rfl (by omega) (by rw [hjo, hlen]; omega)) ?_
                rintro e w ⟨Aj, mj, cj, hmj, rfl, hn, hk⟩
                refine ⟨_, rfl, ?_⟩
                rw [hjo] at hn hmj
                rw [hlen] at hmj
                replace hS := hS.add hk hn -- +rowj
                clear hn hk
                refine hK _ _ ?_; clear hK K
                refine rg_take 26 rfl rfl (by kernel_rfl) (by kernel_rfl) (by kernel_rfl) (want_0) (fun w hok => x_assign (tmS rfl rfl)) ?_
                refine rg_done (oks_drop hS 8 rfl) (by kernel_rfl) ?_
                refine then_n (hK10 _ _ ?_); clear hK10 K10
                refine wp_seq_k ?_; intro K13 hK13
                refine wlit ?_
                refine wl_v (x_move (tmS rfl rfl)) ?_
                refine wl_v (x_move (tmS rfl rfl)) ?_
                refine wl_e rfl ?_; intro K hK
                refine ow_call Try.func21 rfl rfl (evs_cons (tmS rfl rfl) <| evs_nil) (rsum_of_c mj _ _ _ _ (viewR hS.ok 0 rfl) (by rw [hlen, hmj]) hby (by omega)) ?_
                rintro e w ⟨rfl, hk⟩
                refine ⟨_, rfl, ?_⟩
                have eck : 65535 - foldN (psum (hd4B tos len id fl ttl proto 0 sl dl o) mj) = ck := by rw [hmj]; exact hck0.symm
                have hck9 := foldN_bd (psum (hd4B tos len id fl ttl proto 0 sl dl o) mj)
                replace hS := hS.kept hk
                clear hk
                refine hK _ _ ?_; clear hK K
                refine wl_v (x_convN Try.underlying36 Try.underlying37 (tmI rfl (congrArg (fun q : Nat => Value.int .u16 (q : Int)) eck)) (fit_u64 (by omega))) ?_
                refine wl_e rfl ?_; intro K hK
                refine ow_call Try.func39 rfl rfl (evs_cons (tmI rfl rfl) <| evs_cons (ev_cN 2) <| evs_nil) (rbytes_c ck 2 _ (by omega) (by omega)) ?_
                rintro e w ⟨gk, rfl, hn, hk⟩
                refine ⟨_, rfl, ?_⟩
                replace hS := hS.add hk hn -- +rowk
                clear hn hk
                refine hK _ _ ?_; clear hK K
                refine wl_e rfl ?_; intro K hK
                refine ow_call Try.func41 rfl rfl (evs_cons (tmS rfl rfl) <| evs_cons (ev_cN 10) <| evs_cons (tmS rfl rfl) <| evs_nil) (rset_c mj _ _ _ 10 2 _ _ _ _ (viewR hS.ok 1 rfl) (by rw [hlen, hmj]) (by omega) (viewR hS.ok 0 rfl) (be_length _ _) (by omega)) ?_
                rintro e w ⟨Az, cz, rfl, hn, hk⟩
                refine ⟨_, rfl, ?_⟩
                rw [hsum] at hn
                replace hS := hS.add hk hn -- +rowz
                clear hn hk
                refine hK _ _ ?_; clear hK K
                refine wl_v (x_assign (tmS rfl rfl)) ?_
                refine wl_nil ?_
                refine then_n (hK13 _ _ ?_); clear hK13 K13
                refine wp_ret ?_
                refine ret1 rfl (.tmp rfl (show _ = Value.slice _ _ _ from rfl)) ?_
                exact ⟨_, _, _, hmj, rfl, hS.new 0 rfl rfl, hS.kp⟩
          · intro K hK
            refine ow_build hS Try.underlying22 tz_5 (bc_take (tmI rfl rfl) <| bc_take (tmI rfl rfl) <| bc_take (ev_cN 0) <| bc_take (ev_cN 0) <| bc_nil) rfl rfl (by kernel_rfl) ?_
            clear hS; intro g7_15 w hg7_15 hS
            refine hK _ _ ?_; clear hK K
            refine rg_step 10 rfl (by kernel_rfl) (want_0) (oks_drop hS 3 rfl) ?_; intro K hK
            refine ow_call Try.func39 rfl rfl (evs_cons (tmI rfl rfl) <| evs_cons (ev_cN 2) <| evs_nil) (rbytes_c fl 2 _ (by omega) (by omega)) ?_
            rintro e w ⟨gc, rfl, hn, hk⟩
            refine ⟨_, rfl, ?_⟩
            replace hS := hS.add hk hn -- +rowc
            clear hn hk
            refine hK _ _ ?_; clear hK K
            refine rg_step 18 rfl (by kernel_rfl) (want_0) (oks_drop hS 4 rfl) ?_; intro K hK
            refine ow_call Try.func40 rfl rfl (evs_cons (tmA rfl rfl) <| evs_nil) (rad_bytes_c _ _ hls) ?_
            rintro e w ⟨Ad, nd, cd, hnd, rfl, hn, hk⟩
            refine ⟨_, rfl, ?_⟩
            obtain rfl : nd = 4 := hnd
            replace hS := hS.add hk hn -- +rowd
            clear hn hk
            refine hK _ _ ?_; clear hK K
            refine rg_step 21 rfl (by kernel_rfl) (want_0) (oks_drop hS 5 rfl) ?_; intro K hK
            refine ow_call Try.func40 rfl rfl (evs_cons (tmA rfl rfl) <| evs_nil) (rad_bytes_c _ _ hld) ?_
            rintro e w ⟨Ae, ne, ce, hne, rfl, hn, hk⟩
            refine ⟨_, rfl, ?_⟩
            obtain rfl : ne = 4 := hne
            replace hS := hS.add hk hn -- +rowe
            clear hn hk
            refine hK _ _ ?_; clear hK K
            refine rg_step 24 rfl (by kernel_rfl) (want_0) (oks_drop hS 6 rfl) ?_; intro K hK
            refine ow_build hS Try.underlying24 tz_22 (bc_take (tmS rfl rfl) <| bc_take (tmS rfl rfl) <| bc_take (tmS rfl rfl) <| bc_take (tmS rfl rfl) <| bc_take (tmS rfl rfl) <| bc_take (tmS rfl rfl) <| bc_take (tmS rfl rfl) <| bc_take (tmS rfl rfl) <| bc_nil) rfl rfl (by kernel_rfl) ?_
            clear hS; intro g7_24 w hg7_24 hS
            refine hK _ _ ?_; clear hK K
            refine rg_step 25 rfl (by kernel_rfl) (want_0) (oks_drop hS 7 rfl) ?_; intro K hK
            refine ow_call Try.func38 rfl rfl (evs_cons (tmS rfl rfl) <| evs_nil) (join_c 8 _ _ [(some ⟨g6_8, 0, none⟩, [69 + o.length / 4, tos], 2), (some ⟨ga, 0, none⟩, be len 2, 2), (some ⟨gb, 0, none⟩, be id 2, 2), (some ⟨gc, 0, none⟩, be fl 2, 2), (some ⟨g7_15, 0, none⟩, [ttl, proto, 0, 0], 4), (Ad, adB ⟨false, 0, sl⟩, cd), (Ae, adB ⟨false, 0, dl⟩, ce), (O, o, c)] _ (viewB hS.ok 0 rfl) (seen_cons (viewB hS.ok 7 rfl) <| seen_cons (viewR hS.ok 6 rfl) <| seen_cons (viewR hS.ok 5 rfl) <| seen_cons (viewR hS.ok 3 rfl) <| seen_cons (viewB hS.ok 4 rfl) <| seen_cons (viewR hS.ok 2 rfl) <| seen_cons (viewR hS.ok 1 rfl) <| seen_cons (viewV hS.ok 9 rfl) seen_nil) rfl (by omega) (by rw [hjo, hlen]; omega)) ?_
            rintro e w ⟨Aj, mj, cj, hmj, rfl, hn, hk⟩
            refine ⟨_, rfl, ?_⟩
            rw [hjo] at hn hmj
            rw [hlen] at hmj
            replace hS := hS.add hk hn -- +rowj
            clear hn hk
            refine hK _ _ ?_; clear hK K
            refine rg_take 26 rfl rfl (by kernel_rfl) (by kernel_rfl) (by kernel_rfl) (want_0) (fun w hok => x_assign (tmS rfl rfl)) ?_
            refine rg_done (oks_drop hS 8 rfl) (by kernel_rfl) ?_
            refine then_n (hK10 _ _ ?_); clear hK10 K10
            refine wp_seq_k ?_; intro K14 hK14
            refine wlit ?_
            refine wl_v (x_move (tmS rfl rfl)) ?_
            refine wl_v (x_move (tmS rfl rfl)) ?_
            refine wl_e rfl ?_; intro K hK
            refine ow_call Try.func21 rfl rfl (evs_cons (tmS rfl rfl) <| evs_nil) (rsum_of_c mj _ _ _ _ (viewR hS.ok 0 rfl) (by rw [hlen, hmj]) hby (by omega)) ?_
            rintro e w ⟨rfl, hk⟩
            refine ⟨_, rfl, ?_⟩
            have eck : 65535 - foldN (psum (hd4B tos len id fl ttl proto 0 sl dl o) mj) = ck := by rw [hmj]; exact hck0.symm
            have hck9 := foldN_bd (psum (hd4B tos len id fl ttl proto 0 sl dl o) mj)
            replace hS := hS.kept hk
            clear hk
            refine hK _ _ ?_; clear hK K
            refine wl_v (x_convN Try.underlying36 Try.underlying37 (tmI rfl (congrArg (fun q : Nat => Value.int .u16 (q : Int)) eck)) (fit_u64 (by omega))) ?_
            refine wl_e rfl ?_; intro K hK
            refine ow_call Try.func39 rfl rfl (evs_cons (tmI rfl rfl) <| evs_cons (ev_cN 2) <| evs_nil) (rbytes_c ck 2 _ (by omega) (by omega)) ?_
            rintro e w ⟨gk, rfl, hn, hk⟩
            refine ⟨_, rfl, ?_⟩
            replace hS := hS.add hk hn -- +rowk
            clear hn hk
            refine hK _ _ ?_; clear hK K
            refine wl_e rfl ?_; intro K hK
            refine ow_call Try.func41 rfl rfl (evs_cons (tmS rfl rfl) <| evs_cons (ev_cN 10) <| evs_cons (tmS rfl rfl) <| evs_nil) (rset_c mj _ _ _ 10 2 _ _ _ _ (viewR hS.ok 1 rfl) (by rw [hlen, hmj]) (by omega) (viewR hS.ok 0 rfl) (be_length _ _) (by omega)) ?_
            rintro e w ⟨Az, cz, rfl, hn, hk⟩
            refine ⟨_, rfl, ?_⟩
            rw [hsum] at hn
            replace hS := hS.add hk hn -- +rowz
            clear hn hk
            refine hK _ _ ?_; clear hK K
            refine wl_v (x_assign (tmS rfl rfl)) ?_
            refine wl_nil ?_
            refine then_n (hK14 _ _ ?_); clear hK14 K14
            refine wp_ret ?_
            refine ret1 rfl (.tmp rfl (show _ = Value.slice _ _ _ from rfl)) ?_
            exact ⟨_, _, _, hmj, rfl, hS.new 0 rfl rfl, hS.kp⟩
        · intro K hK
          refine ow_build hS Try.underlying22 tz_5 (bc_take (tmI rfl rfl) <| bc_take (tmI rfl rfl) <| bc_take (ev_cN 0) <| bc_take (ev_cN 0) <| bc_nil) rfl rfl (by kernel_rfl) ?_
          clear hS; intro g7_15 w hg7_15 hS
          refine hK _ _ ?_; clear hK K
          refine rg_step 8 rfl (by kernel_rfl) (want_0) (oks_drop hS 2 rfl) ?_; intro K hK
          refine ow_call Try.func39 rfl rfl (evs_cons (tmI rfl rfl) <| evs_cons (ev_cN 2) <| evs_nil) (rbytes_c id 2 _ (by omega) (by omega)) ?_
          rintro e w ⟨gb, rfl, hn, hk⟩
          refine ⟨_, rfl, ?_⟩
          replace hS := hS.add hk hn -- +rowb
          clear hn hk
          refine hK _ _ ?_; clear hK K
          refine rg_step 10 rfl (by kernel_rfl) (want_0) (oks_drop hS 3 rfl) ?_; intro K hK
          refine ow_call Try.func39 rfl rfl (evs_cons (tmI rfl rfl) <| evs_cons (ev_cN 2) <| evs_nil) (rbytes_c fl 2 _ (by omega) (by omega)) ?_
          rintro e w ⟨gc, rfl, hn, hk⟩
          refine ⟨_, rfl, ?_⟩
          replace hS := hS.add hk hn -- +rowc
          clear hn hk
          refine hK _ _ ?_; clear hK K
          refine rg_step 18 rfl (by kernel_rfl) (want_0) (oks_drop hS 4 rfl) ?_; intro K hK
          refine ow_call Try.func40 rfl rfl (evs_cons (tmA rfl rfl) <| evs_nil) (rad_bytes_c _ _ hls) ?_
          rintro e w ⟨Ad, nd, cd, hnd, rfl, hn, hk⟩
          refine ⟨_, rfl, ?_⟩
          obtain rfl : nd = 4 := hnd
          replace hS := hS.add hk hn -- +rowd
          clear hn hk
          refine hK _ _ ?_; clear hK K
          refine rg_step 21 rfl (by kernel_rfl) (want_0) (oks_drop hS 5 rfl) ?_; intro K hK
          refine ow_call Try.func40 rfl rfl (evs_cons (tmA rfl rfl) <| evs_nil) (rad_bytes_c _ _ hld) ?_
          rintro e w ⟨Ae, ne, ce, hne, rfl, hn, hk⟩
          refine ⟨_, rfl, ?_⟩
          obtain rfl : ne = 4 := hne
          replace hS := hS.add hk hn -- +rowe
          clear hn hk
          refine hK _ _ ?_; clear hK K
          refine rg_step 24 rfl (by kernel_rfl) (want_0) (oks_drop hS 6 rfl) ?_; intro K hK
          refine ow_build hS Try.underlying24 tz_22 (bc_take (tmS rfl rfl) <| bc_take (tmS rfl rfl) <| bc_take (tmS rfl rfl) <| bc_take (tmS rfl rfl) <| bc_take (tmS rfl rfl) <| bc_take (tmS rfl rfl) <| bc_take (tmS rfl rfl) <| bc_take (tmS rfl rfl) <| bc_nil) rfl rfl (by kernel_rfl) ?_
          clear hS; intro g7_24 w hg7_24 hS
          refine hK _ _ ?_; clear hK K
          refine rg_step 25 rfl (by kernel_rfl) (want_0) (oks_drop hS 7 rfl) ?_; intro K hK
          refine ow_call Try.func38 rfl rfl (evs_cons (tmS rfl rfl) <| evs_nil) (join_c 8 _ _ [(some ⟨g6_8, 0, none⟩, [69 + o.length / 4, tos], 2), (some ⟨ga, 0, none⟩, be len 2, 2), (some ⟨gb, 0, none⟩, be id 2, 2), (some ⟨gc, 0, none⟩, be fl 2, 2), (some ⟨g7_15, 0, none⟩, [ttl, proto, 0, 0], 4), (Ad, adB ⟨false, 0, sl⟩, cd), (Ae, adB ⟨false, 0, dl⟩, ce), (O, o, c)] _ (viewB hS.ok 0 rfl) (seen_cons (viewB hS.ok 7 rfl) <| seen_cons (viewR hS.ok 6 rfl) <| seen_cons (viewR hS.ok 4 rfl) <| seen_cons (viewR hS.ok 3 rfl) <| seen_cons (viewB hS.ok 5 rfl) <| seen_cons (viewR hS.ok 2 rfl) <| seen_cons (viewR hS.ok 1 rfl) <| seen_cons (viewV hS.ok 9 rfl) seen_nil) rfl (by omega) (by rw [hjo, hlen]; omega)) ?_
          rintro e w ⟨Aj, mj, cj, hmj, rfl, hn, hk⟩
          refine ⟨_, rfl, ?_⟩
          rw [hjo] at hn hmj
          rw [hlen] at hmj
          replace hS := hS.add hk hn -- +rowj
          clear hn hk
          refine hK _ _ ?_; clear hK K
          refine rg_take 26 rfl rfl (by kernel_rfl) (by kernel_rfl) (by kernel_rfl) (want_0) (fun w hok => x_assign (tmS rfl rfl)) ?_
          refine rg_done (oks_drop hS 8 rfl) (by kernel_rfl) ?_
          refine then_n (hK10 _ _ ?_); clear hK10 K10
          refine wp_seq_k ?_; intro K15 hK15
          refine wlit ?_
          refine wl_v (x_move (tmS rfl rfl)) ?_
          refine wl_v (x_move (tmS rfl rfl)) ?_
          refine wl_e rfl ?_; intro K hK
          refine ow_call Try.func21 rfl rfl (evs_cons (tmS rfl rfl) <| evs_nil) (rsum_of_c mj _ _ _ _ (viewR hS.ok 0 rfl) (by rw [hlen, hmj]) hby (by omega)) ?_
          rintro e w ⟨rfl, hk⟩
          refine ⟨_, rfl, ?_⟩
          have eck : 65535 - foldN (psum (hd4B tos len id fl ttl proto 0 sl dl o) mj) = ck := by rw [hmj]; exact hck0.symm
          have hck9 := foldN_bd (psum (hd4B tos len id fl ttl proto 0 sl dl o) mj)
          replace hS := hS.kept hk
          clear hk
          refine hK _ _ ?_; clear hK K
          refine wl_v (x_convN Try.underlying36 Try.underlying37 (tmI rfl (congrArg (fun q : Nat => Value.int .u16 (q : Int)) eck)) (fit_u64 (by omega))) ?_
          refine wl_e rfl ?_; intro K hK
          refine ow_call Try.func39 rfl rfl (evs_cons (tmI rfl rfl) <| evs_cons (ev_cN 2) <| evs_nil) (rbytes_c ck 2 _ (by omega) (by omega)) ?_
          rintro e w ⟨gk, rfl, hn, hk⟩
          refine ⟨_, rfl, ?_⟩
          replace hS := hS.add hk hn -- +rowk
          clear hn hk
          refine hK _ _ ?_; clear hK K
          refine wl_e rfl ?_; intro K hK
          refine ow_call Try.func41 rfl rfl (evs_cons (tmS rfl rfl) <| evs_cons (ev_cN 10) <| evs_cons (tmS rfl rfl) <| evs_nil) (rset_c mj _ _ _ 10 2 _ _ _ _ (viewR hS.ok 1 rfl) (by rw [hlen, hmj]) (by omega) (viewR hS.ok 0 rfl) (be_length _ _) (by omega)) ?_
          rintro e w ⟨Az, cz, rfl, hn, hk⟩
          refine ⟨_, rfl, ?_⟩
          rw [hsum] at hn
          replace hS := hS.add hk hn -- +rowz
          clear hn hk
          refine hK _ _ ?_; clear hK K
          refine wl_v (x_assign (tmS rfl rfl)) ?_
          refine wl_nil ?_
          refine then_n (hK15 _ _ ?_); clear hK15 K15
          refine wp_ret ?_
          refine ret1 rfl (.tmp rfl (show _ = Value.slice _ _ _ from rfl)) ?_
          exact ⟨_, _, _, hmj, rfl, hS.new 0 rfl rfl, hS.kp⟩
      · intro K hK
        refine ow_build hS Try.underlying22 tz_5 (bc_take (tmI rfl rfl) <| bc_take (tmI rfl rfl) <| bc_take (ev_cN 0) <| bc_take (ev_cN 0) <| bc_nil) rfl rfl (by kernel_rfl) ?_
        clear hS; intro g7_15 w hg7_15 hS
        refine hK _ _ ?_; clear hK K
        refine rg_step 4 rfl (by kernel_rfl) (want_0) (oks_drop hS 1 rfl) ?_; intro K hK
        refine ow_call Try.func39 rfl rfl (evs_cons (tmI rfl rfl) <| evs_cons (ev_cN 2) <| evs_nil) (rbytes_c len 2 _ (by omega) (by omega)) ?_
        rintro e w ⟨ga, rfl, hn, hk⟩
        refine ⟨_, rfl, ?_⟩
        replace hS := hS.add hk hn -- +rowa
        clear hn hk
        refine hK _ _ ?_; clear hK K
        refine rg_step 8 rfl (by kernel_rfl) (want_0) (oks_drop hS 2 rfl) ?_; intro K hK
        refine ow_call Try.func39 rfl rfl (evs_cons (tmI rfl rfl) <| evs_cons (ev_cN 2) <| evs_nil) (rbytes_c id 2 _ (by omega) (by omega)) ?_
        rintro e w ⟨gb, rfl, hn, hk⟩
        refine ⟨_, rfl, ?_⟩
        replace hS := hS.add hk hn -- +rowb
        clear hn hk
        refine hK _ _ ?_; clear hK K
        refine rg_step 10 rfl (by kernel_rfl) (want_0) (oks_drop hS 3 rfl) ?_; intro K hK
        refine ow_call Try.func39 rfl rfl (evs_cons (tmI rfl rfl) <| evs_cons (ev_cN 2) <| evs_nil) (rbytes_c fl 2 _ (by omega) (by omega)) ?_
        rintro e w ⟨gc, rfl, hn, hk⟩
        refine ⟨_, rfl, ?_⟩
        replace hS := hS.add hk hn -- +rowc
        clear hn hk
        refine hK _ _ ?_; clear hK K
        refine rg_step 18 rfl (by kernel_rfl) (want_0) (oks_drop hS 4 rfl) ?_; intro K hK
        refine ow_call Try.func40 rfl rfl (evs_cons (tmA rfl rfl) <| evs_nil) (rad_bytes_c _ _ hls) ?_
        rintro e w ⟨Ad, nd, cd, hnd, rfl, hn, hk⟩
        refine ⟨_, rfl, ?_⟩
        obtain rfl : nd = 4 := hnd
        replace hS := hS.add hk hn -- +rowd
        clear hn hk
        refine hK _ _ ?_; clear hK K
        refine rg_step 21 rfl (by kernel_rfl) (want_0) (oks_drop hS 5 rfl) ?_; intro K hK
        refine ow_call Try.func40 rfl rfl (evs_cons (tmA rfl rfl) <| evs_nil) (rad_bytes_c _ _ hld) ?_
        rintro e w ⟨Ae, ne, ce, hne, rfl, hn, hk⟩
        refine ⟨_, rfl, ?_⟩
        obtain rfl : ne = 4 := hne
        replace hS := hS.add hk hn -- +rowe
        clear hn hk
        refine hK _ _ ?_; clear hK K
        refine rg_step 24 rfl (by kernel_rfl) (want_0) (oks_drop hS 6 rfl) ?_; intro K hK
        refine ow_build hS Try.underlying24 tz_22 (bc_take (tmS rfl rfl) <| bc_take (tmS rfl rfl) <| bc_take (tmS rfl rfl) <| bc_take (tmS rfl rfl) <| bc_take (tmS rfl rfl) <| bc_take (tmS rfl rfl) <| bc_take (tmS rfl rfl) <| bc_take (tmS rfl rfl) <| bc_nil) rfl rfl (by kernel_rfl) ?_
        clear hS; intro g7_24 w hg7_24 hS
        refine hK _ _ ?_; clear hK K
        refine rg_step 25 rfl (by kernel_rfl) (want_0) (oks_drop hS 7 rfl) ?_; intro K hK
        refine ow_call Try.func38 rfl rfl (evs_cons (tmS rfl rfl) <| evs_nil) (join_c 8 _ _ [(some ⟨g6_8, 0, none⟩, [69 + o.length / 4, tos], 2), (some ⟨ga, 0, none⟩, be len 2, 2), (some ⟨gb, 0, none⟩, be id 2, 2), (some ⟨gc, 0, none⟩, be fl 2, 2), (some ⟨g7_15, 0, none⟩, [ttl, proto, 0, 0], 4), (Ad, adB ⟨false, 0, sl⟩, cd), (Ae, adB ⟨false, 0, dl⟩, ce), (O, o, c)] _ (viewB hS.ok 0 rfl) (seen_cons (viewB hS.ok 7 rfl) <| seen_cons (viewR hS.ok 5 rfl) <| seen_cons (viewR hS.ok 4 rfl) <| seen_cons (viewR hS.ok 3 rfl) <| seen_cons (viewB hS.ok 6 rfl) <| seen_cons (viewR hS.ok 2 rfl) <| seen_cons (viewR hS.ok 1 rfl) <| seen_cons (viewV hS.ok 9 rfl) seen_nil) rfl (by omega) (by rw [hjo, hlen]; omega)) ?_
        rintro e w ⟨Aj, mj, cj, hmj, rfl, hn, hk⟩
        refine ⟨_, rfl, ?_⟩
        rw [hjo] at hn hmj
        rw [hlen] at hmj
        replace hS := hS.add hk hn -- +rowj
        clear hn hk
        refine hK _ _ ?_; clear hK K
        refine rg_take 26 rfl rfl (by kernel_rfl) (by kernel_rfl) (by kernel_rfl) (want_0) (fun w hok => x_assign (tmS rfl rfl)) ?_
        refine rg_done (oks_drop hS 8 rfl) (by kernel_rfl) ?_
        refine then_n (hK10 _ _ ?_); clear hK10 K10
        refine wp_seq_k ?_; intro K16 hK16
        refine wlit ?_
        refine wl_v (x_move (tmS rfl rfl)) ?_
        refine wl_v (x_move (tmS rfl rfl)) ?_
        refine wl_e rfl ?_; intro K hK
        refine ow_call Try.func21 rfl rfl (evs_cons (tmS rfl rfl) <| evs_nil) (rsum_of_c mj _ _ _ _ (viewR hS.ok 0 rfl) (by rw [hlen, hmj]) hby (by omega)) ?_
        rintro e w ⟨rfl, hk⟩
        refine ⟨_, rfl, ?_⟩
        have eck : 65535 - foldN (psum (hd4B tos len id fl ttl proto 0 sl dl o) mj) = ck := by rw [hmj]; exact hck0.symm
        have hck9 := foldN_bd (psum (hd4B tos len id fl ttl proto 0 sl dl o) mj)
        replace hS := hS.kept hk
        clear hk
        refine hK _ _ ?_; clear hK K
        refine wl_v (x_convN Try.underlying36 Try.underlying37 (tmI rfl (congrArg (fun q : Nat => Value.int .u16 (q : Int)) eck)) (fit_u64 (by omega))) ?_
        refine wl_e rfl ?_; intro K hK
        refine ow_call Try.func39 rfl rfl (evs_cons (tmI rfl rfl) <| evs_cons (ev_cN 2) <| evs_nil) (rbytes_c ck 2 _ (by omega) (by omega)) ?_
        rintro e w ⟨gk, rfl, hn, hk⟩
        refine ⟨_, rfl, ?_⟩
        replace hS := hS.add hk hn -- +rowk
        clear hn hk
        refine hK _ _ ?_; clear hK K
        refine wl_e rfl ?_; intro K hK
        refine ow_call Try.func41 rfl rfl (evs_cons (tmS rfl rfl) <| evs_cons (ev_cN 10) <| evs_cons (tmS rfl rfl) <| evs_nil) (rset_c mj _ _ _ 10 2 _ _ _ _ (viewR hS.ok 1 rfl) (by rw [hlen, hmj]) (by omega) (viewR hS.ok 0 rfl) (be_length _ _) (by omega)) ?_
        rintro e w ⟨Az, cz, rfl, hn, hk⟩
        refine ⟨_, rfl, ?_⟩
        rw [hsum] at hn
        replace hS := hS.add hk hn -- +rowz
        clear hn hk
        refine hK _ _ ?_; clear hK K
        refine wl_v (x_assign (tmS rfl rfl)) ?_
        refine wl_nil ?_
        refine then_n (hK16 _ _ ?_); clear hK16 K16
        refine wp_ret ?_
        refine ret1 rfl (.tmp rfl (show _ = Value.slice _ _ _ from rfl)) ?_
        exact ⟨_, _, _, hmj, rfl, hS.new 0 rfl rfl, hS.kp⟩

set_option maxRecDepth 100000 in
set_option maxHeartbeats 8000000 in
theorem rip4_packet_c (tos : Nat) (len : Int) (id : Nat) (stay more : Bool) (off ttl proto sum sl dl : Nat) (O : Option Addr) (c : Nat) (o : List Nat) (L : Option Addr) (cl : Nat) (x : List Nat) (w0 : World) (h1 : View w0 w0.heap.size O (o.map u8v)) (hob : Bytes o) (h2 : View w0 w0.heap.size L (x.map u8v))
    (q1 : tos < 256) (q3 : id < 65536) (q7 : ttl < 256) (q8 : proto < 256) (hr : hdRight ((20 + o.length + x.length : Nat) : Int) (off : Int) ⟨false, 0, sl⟩ ⟨false, 0, dl⟩ o.length) :
    Calls Try.prog 12 #[.agg (hdV tos len id stay more (off : Int) ttl proto sum ⟨false, 0, sl⟩ ⟨false, 0, dl⟩ O o.length c).toArray, .slice L x.length cl] w0 fun e w' => ∃ A' n c', n = 20 + o.length + x.length ∧ e = .returned (.tuple #[.slice A' n c', .int .i64 0]) ∧ New w0 w' (.row (.slice A' n c') 5 1 n ((hd4B tos (20 + o.length + x.length) id (flN off stay more) ttl proto (hd4C tos (20 + o.length + x.length) id (flN off stay more) ttl proto sl dl o) sl dl o ++ x).map u8v)) ∧ Kp [] w0 w' := by
  have hS := ((St.sv w0).vcons rfl h1).vcons rfl h2
  have hr' := hr
  obtain ⟨r1, r2, r3, r4, r5, r6, _, _⟩ := hr'
  refine ent (n := 24) Try.func12 rfl rfl ?_
  refine wp_seq_k ?_; intro K1 hK1
  refine wlit ?_
  refine wl_e rfl ?_; intro K hK
  refine ow_box hS (tmA rfl rfl) rfl ?_
  clear hS; intro g0_0 w hg0_0 hS
  refine hK _ _ ?_; clear hK K
  refine wl_v (x_assign ev_c) ?_
  refine wl_v (x_assign (ev_cN 0)) ?_
  refine wl_nil ?_
  refine then_n (hK1 _ _ ?_); clear hK1 K1
  refine wp_seq_k ?_; intro K2 hK2
  refine wlit ?_
  refine wl_v (x_fa 15 Try.underlying41 rfl rfl ts_22 (tmP rfl rfl)) ?_
  first
   | refine wl_v (x_load Try.underlying22 rfl (tmP rfl rfl) (cellB hS.ok 0 rfl rfl)) ?_
   | refine wl_v (x_load Try.underlying22 rfl (tmP rfl rfl) (cellB hS.ok 0 rfl (getm (by omega)))) ?_
  refine wl_v (x_len Try.underlying22 (tmS rfl rfl)) ?_
  first
   | refine wl_v (x_addN (ev_cN 20) (tmI rfl rfl) (fit_i64 (by omega))) ?_
   | refine wl_v (x_addI (ev_cN 20) (tmI rfl rfl) (IntWalk.i64_in _ (by omega))) ?_
   | refine wl_v (x_add (ev_cN 20) (tmI rfl rfl)) ?_
  refine wl_v (x_move (tmS rfl rfl)) ?_
  refine wl_v (x_len Try.underlying22 (tmS rfl rfl)) ?_
  first
   | refine wl_v (x_addN (tmI rfl rfl) (tmI rfl rfl) (fit_i64 (by omega))) ?_
   | refine wl_v (x_addI (tmI rfl rfl) (tmI rfl rfl) (IntWalk.i64_in _ (by omega))) ?_
   | refine wl_v (x_add (tmI rfl rfl) (tmI rfl rfl)) ?_
  refine wl_v (x_fa 1 Try.underlying41 rfl rfl ts_3 (tmP rfl rfl)) ?_
  refine wl_e rfl ?_; intro K hK
  first
   | refine ow_store hS 0 rfl ts_3 (tmP rfl rfl) (tmI rfl rfl) rfl rfl ?_
   | refine ow_storeX hS 0 rfl ts_3 (tmP rfl rfl) (tmI rfl rfl) rfl (by simp; omega) ?_
  clear hS; intro w hS
  try replace hS := St.nm (M' := [.blk _ _ [_, _, _, _, _, _, _, _, _, _, _, _, _, _, _, _], .vw _ _, .vw _ _]) hS rfl
  refine hK _ _ ?_; clear hK K
  refine wl_nil ?_
  refine then_n (hK2 _ _ ?_); clear hK2 K2
  refine wp_seq_k ?_; intro K3 hK3
  refine wp_seq_k ?_; intro K4 hK4
  refine wlit ?_
  refine wl_v (x_fa 1 Try.underlying41 rfl rfl ts_3 (tmP rfl rfl)) ?_
  first
   | refine wl_v (x_load Try.underlying3 rfl (tmP rfl rfl) (cellB hS.ok 0 rfl rfl)) ?_
   | refine wl_v (x_load Try.underlying3 rfl (tmP rfl rfl) (cellB hS.ok 0 rfl (getm (by omega)))) ?_
  refine wl_v (x_gtr (tmI rfl rfl) (ev_cN 65535)) ?_
  refine wl_nil ?_
  refine then_n (hK4 _ _ ?_); clear hK4 K4
  refine cnd (tm rfl) (fun hc0 => ?_) (fun hc0 => ?_)
  · exfalso
    simp only [nrm] at hc0
    omega
  try (exfalso; first | with_reducible exact absurd hc0 Bool.false_ne_true | with_reducible exact absurd hc0.symm Bool.false_ne_true | (simp only [nrm] at hc0; omega) | (simp at hc0; done))
  all_goals
   try simp only [nrm] at hc0
   refine wp_skip ?_
   refine then_n (hK3 _ _ ?_); clear hK3 K3
   refine wp_seq_k ?_; intro K5 hK5
   refine wp_seq_k ?_; intro K6 hK6
   refine wlit ?_
   refine wl_v (x_loadA (cs := [_, _, _, _, _, _, _, _, _, _, _, _, _, _, _, _]) Try.underlying41 rfl ts_41 (tmP rfl rfl) (rangeB hS.ok 0 rfl rfl)) ?_
   refine wl_e rfl ?_; intro K hK
   refine ow_call Try.func22 rfl rfl (evs_cons (tmA rfl rfl) <| evs_nil) (rip4_right_c tos ((20 + o.length + x.length : Nat) : Int) id stay more off ttl proto sum ⟨false, 0, sl⟩ ⟨false, 0, dl⟩ O o.length c _ (by omega)) ?_
   rintro e w ⟨rfl, hk⟩
   refine ⟨_, rfl, ?_⟩
   replace hS := hS.kept hk
   clear hk
   refine hK _ _ ?_; clear hK K
   refine wl_v (x_not (tmB rfl rfl)) ?_
   refine wl_nil ?_
   refine then_n (hK6 _ _ ?_); clear hK6 K6
   refine cnd (tm rfl) (fun hc1 => ?_) (fun hc1 => ?_)
   · exfalso
     simp at hc1
     exact hc1 hr
   try (exfalso; first | with_reducible exact absurd hc1 Bool.false_ne_true | with_reducible exact absurd hc1.symm Bool.false_ne_true | (simp only [nrm] at hc1; omega) | (simp at hc1; done))
   all_goals
    try simp only [nrm] at hc1
    refine wp_skip ?_
    refine then_n (hK5 _ _ ?_); clear hK5 K5
    refine wp_seq_k ?_; intro K7 hK7
    refine wlit ?_
    refine wl_v (x_loadA (cs := [_, _, _, _, _, _, _, _, _, _, _, _, _, _, _, _]) Try.underlying41 rfl ts_41 (tmP rfl rfl) (rangeB hS.ok 0 rfl rfl)) ?_
    refine wl_e rfl ?_; intro K hK
    refine ow_call Try.func23 rfl rfl (evs_cons (tmA rfl rfl) <| evs_nil) (rip4_bytes_c tos (20 + o.length + x.length) id stay more off ttl proto sum sl dl O c o _ (viewV hS.ok 2 rfl) hob q1 q3 q7 q8 hr) ?_
    rintro e w ⟨A1, n1, c1, hn1, rfl, hn, hk⟩
    refine ⟨_, rfl, ?_⟩
    replace hS := hS.add hk hn -- +rowb
    clear hn hk
    refine hK _ _ ?_; clear hK K
    refine wl_v (x_move (tmS rfl rfl)) ?_
    refine wl_e rfl ?_; intro K hK
    first
     | (refine ow_append hS 0 1 rfl rfl Try.underlying22 tz_5 rfl (tmS rfl rfl) (tmS rfl rfl) rfl ⟨by decide, by decide, rfl⟩ (by simp only [maxLen]; omega) (by omega) ?_; clear hS; intro g6_3 cg6_3 w hS)
     | (refine ow_append hS 0 2 rfl rfl Try.underlying22 tz_5 rfl (tmS rfl rfl) (tmS rfl rfl) rfl ⟨by decide, by decide, rfl⟩ (by simp only [maxLen]; omega) (by omega) ?_; clear hS; intro g6_3 cg6_3 w hS)
     | (refine ow_append hS 0 3 rfl rfl Try.underlying22 tz_5 rfl (tmS rfl rfl) (tmS rfl rfl) rfl ⟨by decide, by decide, rfl⟩ (by simp only [maxLen]; omega) (by omega) ?_; clear hS; intro g6_3 cg6_3 w hS)
     | (refine ow_appendV hS 0 rfl (viewR hS.ok 0 rfl) Try.underlying22 tz_5 rfl (tmS rfl rfl) (tmS rfl rfl) (by first | exact u8v_one _ | (intro u hu; simp at hu; first | (rcases hu with rfl | rfl <;> rfl) | (obtain ⟨_, _, rfl⟩ := hu; rfl))) ⟨by decide, by first | rfl | (simp; done) | (simp; omega)⟩ (by simp only [maxLen]; omega) (by omega) ?_; clear hS; intro g6_3 cg6_3 w hAg6_3 hCg6_3 hS)
     | (refine ow_appendV hS 0 rfl (viewV hS.ok 2 rfl) Try.underlying22 tz_5 rfl (tmS rfl rfl) (tmS rfl rfl) (by first | exact u8v_one _ | (intro u hu; simp at hu; first | (rcases hu with rfl | rfl <;> rfl) | (obtain ⟨_, _, rfl⟩ := hu; rfl))) ⟨by decide, by first | rfl | (simp; done) | (simp; omega)⟩ (by simp only [maxLen]; omega) (by omega) ?_; clear hS; intro g6_3 cg6_3 w hAg6_3 hCg6_3 hS)
     | (refine ow_appendV hS 0 rfl (viewV hS.ok 3 rfl) Try.underlying22 tz_5 rfl (tmS rfl rfl) (tmS rfl rfl) (by first | exact u8v_one _ | (intro u hu; simp at hu; first | (rcases hu with rfl | rfl <;> rfl) | (obtain ⟨_, _, rfl⟩ := hu; rfl))) ⟨by decide, by first | rfl | (simp; done) | (simp; omega)⟩ (by simp only [maxLen]; omega) (by omega) ?_; clear hS; intro g6_3 cg6_3 w hAg6_3 hCg6_3 hS)
     | (refine ow_appendV hS 0 rfl View.nil_ Try.underlying22 tz_5 rfl (tmS rfl rfl) (tmS rfl rfl) (by first | exact u8v_one _ | (intro u hu; simp at hu; first | (rcases hu with rfl | rfl <;> rfl) | (obtain ⟨_, _, rfl⟩ := hu; rfl))) ⟨by decide, by first | rfl | (simp; done) | (simp; omega)⟩ (by simp only [maxLen]; omega) (by omega) ?_; clear hS; intro g6_3 cg6_3 w hAg6_3 hCg6_3 hS)
    refine hK _ _ ?_; clear hK K
    refine wl_v (x_assign (tmS rfl rfl)) ?_
    refine wl_v (x_assign (ev_cN 0)) ?_
    refine wl_nil ?_
    rw [← List.map_append] at hS
    refine then_n (hK7 _ _ ?_); clear hK7 K7
    refine wp_ret ?_
    refine ret2 rfl (.tmp rfl (show _ = Value.slice _ _ _ from rfl)) (.tmp rfl (show _ = Value.int _ _ from rfl)) ?_
    exact ⟨_, _, _, by omega, rfl, hS.new 0 rfl rfl, hS.kp⟩

set_option maxRecDepth 100000 in
set_option maxHeartbeats 8000000 in
theorem rip4_packet_bad (tos : Nat) (len : Int) (id : Nat) (stay more : Bool) (off : Int) (ttl proto sum : Nat) (s d : Ad) (O : Option Addr) (m c : Nat) (L : Option Addr) (k cl : Nat) (w0 : World) (hm : m ≤ 1000000) (hk0 : k ≤ 1000000) (er : Nat) (he : (65535 < 20 + m + k ∧ er = 30) ∨ (20 + m + k ≤ 65535 ∧ ¬ hdRight ((20 + m + k : Nat) : Int) off s d m ∧ er = 1)) :
    Calls Try.prog 12 #[.agg (hdV tos len id stay more off ttl proto sum s d O m c).toArray, .slice L k cl] w0 fun e w' => e = .returned (.tuple #[.slice none 0 0, .int .i64 (er : Int)]) ∧ Kp [] w0 w' := by
  have hS := St.sv w0
  refine ent (n := 24) Try.func12 rfl rfl ?_
  refine wp_seq_k ?_; intro K1 hK1
  refine wlit ?_
  refine wl_e rfl ?_; intro K hK
  refine ow_box hS (tmA rfl rfl) rfl ?_
  clear hS; intro g0_0 w hg0_0 hS
  refine hK _ _ ?_; clear hK K
  refine wl_v (x_assign ev_c) ?_
  refine wl_v (x_assign (ev_cN 0)) ?_
  refine wl_nil ?_
  refine then_n (hK1 _ _ ?_); clear hK1 K1
  refine wp_seq_k ?_; intro K2 hK2
  refine wlit ?_
  refine wl_v (x_fa 15 Try.underlying41 rfl rfl ts_22 (tmP rfl rfl)) ?_
  first
   | refine wl_v (x_load Try.underlying22 rfl (tmP rfl rfl) (cellB hS.ok 0 rfl rfl)) ?_
   | refine wl_v (x_load Try.underlying22 rfl (tmP rfl rfl) (cellB hS.ok 0 rfl (getm (by omega)))) ?_
  refine wl_v (x_len Try.underlying22 (tmS rfl rfl)) ?_
  first
   | refine wl_v (x_addN (ev_cN 20) (tmI rfl rfl) (fit_i64 (by omega))) ?_
   | refine wl_v (x_addI (ev_cN 20) (tmI rfl rfl) (IntWalk.i64_in _ (by omega))) ?_
   | refine wl_v (x_add (ev_cN 20) (tmI rfl rfl)) ?_
  refine wl_v (x_move (tmS rfl rfl)) ?_
  refine wl_v (x_len Try.underlying22 (tmS rfl rfl)) ?_
  first
   | refine wl_v (x_addN (tmI rfl rfl) (tmI rfl rfl) (fit_i64 (by omega))) ?_
   | refine wl_v (x_addI (tmI rfl rfl) (tmI rfl rfl) (IntWalk.i64_in _ (by omega))) ?_
   | refine wl_v (x_add (tmI rfl rfl) (tmI rfl rfl)) ?_
  refine wl_v (x_fa 1 Try.underlying41 rfl rfl ts_3 (tmP rfl rfl)) ?_
  refine wl_e rfl ?_; intro K hK
  first
   | refine ow_store hS 0 rfl ts_3 (tmP rfl rfl) (tmI rfl rfl) rfl rfl ?_
   | refine ow_storeX hS 0 rfl ts_3 (tmP rfl rfl) (tmI rfl rfl) rfl (by simp; omega) ?_
  clear hS; intro w hS
  try replace hS := St.nm (M' := [.blk _ _ [_, _, _, _, _, _, _, _, _, _, _, _, _, _, _, _], _]) hS rfl
  refine hK _ _ ?_; clear hK K
  refine wl_nil ?_
  refine then_n (hK2 _ _ ?_); clear hK2 K2
  refine wp_seq_k ?_; intro K3 hK3
  refine wp_seq_k ?_; intro K4 hK4
  refine wlit ?_
  refine wl_v (x_fa 1 Try.underlying41 rfl rfl ts_3 (tmP rfl rfl)) ?_
  first
   | refine wl_v (x_load Try.underlying3 rfl (tmP rfl rfl) (cellB hS.ok 0 rfl rfl)) ?_
   | refine wl_v (x_load Try.underlying3 rfl (tmP rfl rfl) (cellB hS.ok 0 rfl (getm (by omega)))) ?_
  refine wl_v (x_gtr (tmI rfl rfl) (ev_cN 65535)) ?_
  refine wl_nil ?_
  refine then_n (hK4 _ _ ?_); clear hK4 K4
  refine cnd (tm rfl) (fun hc0 => ?_) (fun hc0 => ?_)
  · try (exfalso; first | with_reducible exact absurd hc0 Bool.false_ne_true | with_reducible exact absurd hc0.symm Bool.false_ne_true | (simp only [nrm] at hc0; omega) | (simp at hc0; done))
    all_goals
     try simp only [nrm] at hc0
     refine wp_seq_k ?_; intro K5 hK5
     refine wlit ?_
     refine wl_v (x_assign ev_c) ?_
     refine wl_v (x_assign (ev_cN 30)) ?_
     refine wl_nil ?_
     refine then_n (hK5 _ _ ?_); clear hK5 K5
     refine wp_ret ?_
     refine then_r ?_
     refine ret2 rfl (.tmp rfl (show _ = Value.slice _ _ _ from rfl)) (.tmp rfl (show _ = Value.int _ _ from rfl)) ?_
     rcases he with ⟨h1, rfl⟩ | ⟨h1, h2, rfl⟩
     · first | exact ⟨rfl, hS.kp⟩ | (exfalso; omega)
     · first | exact ⟨rfl, hS.kp⟩ | (exfalso; omega)
  try (exfalso; first | with_reducible exact absurd hc0 Bool.false_ne_true | with_reducible exact absurd hc0.symm Bool.false_ne_true | (simp only [nrm] at hc0; omega) | (simp at hc0; done))
  all_goals
   try simp only [nrm] at hc0
   refine wp_skip ?_
   refine then_n (hK3 _ _ ?_); clear hK3 K3
   refine wp_seq_k ?_; intro K6 hK6
   refine wp_seq_k ?_; intro K7 hK7
   refine wlit ?_
   refine wl_v (x_loadA (cs := [_, _, _, _, _, _, _, _, _, _, _, _, _, _, _, _]) Try.underlying41 rfl ts_41 (tmP rfl rfl) (rangeB hS.ok 0 rfl rfl)) ?_
   refine wl_e rfl ?_; intro K hK
   refine ow_call Try.func22 rfl rfl (evs_cons (tmA rfl rfl) <| evs_nil) (rip4_right_c tos ((20 + m + k : Nat) : Int) id stay more off ttl proto sum s d O m c _ hm) ?_
   rintro e w ⟨rfl, hk⟩
   refine ⟨_, rfl, ?_⟩
   replace hS := hS.kept hk
   clear hk
   refine hK _ _ ?_; clear hK K
   refine wl_v (x_not (tmB rfl rfl)) ?_
   refine wl_nil ?_
   refine then_n (hK7 _ _ ?_); clear hK7 K7
   refine cnds (tm rfl) (fun hc1 => ?_) (fun hc1 => ?_)
   · exfalso
     simp at hc1
     rcases he with ⟨h1, _⟩ | ⟨_, h1, _⟩
     · omega
     · exact h1 hc1
   try (exfalso; first | with_reducible exact absurd hc1 Bool.false_ne_true | with_reducible exact absurd hc1.symm Bool.false_ne_true | (simp only [nrm] at hc1; omega) | (simp at hc1; done))
   all_goals
    try simp only [nrm] at hc1
    refine wp_seq_k ?_; intro K8 hK8
    refine wlit ?_
    refine wl_v (x_assign ev_c) ?_
    refine wl_v (x_assign (ev_cN 1)) ?_
    refine wl_nil ?_
    refine then_n (hK8 _ _ ?_); clear hK8 K8
    refine wp_ret ?_
    refine then_r ?_
    refine ret2 rfl (.tmp rfl (show _ = Value.slice _ _ _ from rfl)) (.tmp rfl (show _ = Value.int _ _ from rfl)) ?_
    rcases he with ⟨h1, rfl⟩ | ⟨h1, h2, rfl⟩
    · first | exact ⟨rfl, hS.kp⟩ | (exfalso; omega)
    · first | exact ⟨rfl, hS.kp⟩ | (exfalso; omega)
end Go.Proofs.Ytpibinkekfkafaa
