
/- follow: Bytes, by both. Conditions: the message is right, its bytes few. -/
import Derived.Test.YtmokaeflnlajgaaFwC
namespace Go.Proofs.Ytmokaeflnlajgaa
open Go.ChangeShapes Go.WideShapes Go.ChangeAt Go.RowKit
def fhd (kn num c : Nat) : List Nat := be kn 1 ++ be num 8 ++ be c 1
theorem fhd_len (kn num c : Nat) : (fhd kn num c).length = 10 := by simp [fhd, be_length]
def fone (r : Row3) : List Nat := be r.2.1.length 2 ++ r.2.1
def fbody (rows : List Row3) : List Nat := (rows.map fone).flatten
def fenc (kn num : Nat) (rows : List Row3) (k : Nat) : List Nat := fhd kn num rows.length ++ fbody (rows.take k)
theorem fbody_snoc (rows : List Row3) (k : Nat) (h : k < rows.length) : fbody (rows.take (k + 1)) = fbody (rows.take k) ++ fone (rows.getD k default) := by
  unfold fbody
  rw [List.take_succ_eq_append_getElem h, List.map_append, List.flatten_append, List.getD_eq_getElem?_getD, List.getElem?_eq_getElem h]
  simp
theorem fenc_snoc (kn num : Nat) (rows : List Row3) (k : Nat) (h : k < rows.length) : fenc kn num rows (k + 1) = fenc kn num rows k ++ be (rows.getD k default).2.1.length 2 ++ (rows.getD k default).2.1 := by
  unfold fenc
  rw [fbody_snoc _ _ h, ← List.append_assoc]
  unfold fone
  rw [← List.append_assoc]
theorem fone_len (r : Row3) : (fone r).length = 2 + r.2.1.length := by unfold fone; rw [List.length_append, be_length]
theorem fbody_le (rows : List Row3) (k : Nat) : (fbody (rows.take k)).length ≤ (fbody rows).length := by
  have h : fbody rows = fbody (rows.take k) ++ fbody (rows.drop k) := by
    unfold fbody
    rw [← List.flatten_append, ← List.map_append, List.take_append_drop]
  rw [h, List.length_append]
  omega
theorem fenc_le (kn num : Nat) (rows : List Row3) (k : Nat) : (fenc kn num rows k).length ≤ 10 + (fbody rows).length := by
  have := fbody_le rows k
  unfold fenc
  rw [List.length_append, fhd_len]
  omega
set_option maxRecDepth 100000 in
set_option maxHeartbeats 8000000 in
theorem fbytes_c (kn num : Nat) (L : Option Addr) (n c : Nat) (rows : List Row3) (w0 : World) (hv : View w0 w0.heap.size L (rows.map rowV)) (hV : Vws w0 rows) (hl : rows.length = n) (hf : frP (kn : Int) rows) (hnum : num ≤ 18446744073709551615) (hsum : (fbody rows).length ≤ 100000) :
    Calls Try.prog 12 #[.agg (fmV (kn : Int) num L n c).toArray] w0 fun e w' => ∃ G m cg, e = .returned (.slice G m cg) ∧ m = (fenc kn num rows n).length ∧ m ≤ cg ∧ New w0 w' (.row (.slice G m cg) 5 1 m ((fenc kn num rows n).map u8v)) ∧ Kp [] w0 w' := by
  have hc := hf.2
  rw [cntP_iff, hl] at hc
  have hkn : kn ≤ 3 := by omega
  have hn16 : n ≤ 16 := by omega
  have hS := (St.sv w0).vcons rfl hv
  refine ent (n := 40) Try.func12 rfl rfl ?_
  refine wp_seq_k ?_; intro K1 hK1
  refine wlit ?_
  refine wl_e rfl ?_; intro K hK
  refine ow_box hS (tmA rfl rfl) rfl ?_
  clear hS; intro g0_0 w hg0_0 hS
  refine hK _ _ ?_; clear hK K
  refine wl_v (x_assign ev_c) ?_
  refine wl_nil ?_
  refine then_n (hK1 _ _ ?_); clear hK1 K1
  refine wp_seq_k ?_; intro K2 hK2
  refine wp_seq_k ?_; intro K3 hK3
  refine wlit ?_
  refine wl_v (x_loadA (cs := [_, _, _]) Try.underlying29 rfl ts_29 (tmP rfl rfl) (rangeB hS.ok 0 rfl rfl)) ?_
  refine wl_e rfl ?_; intro K hK
  refine ow_call Try.func10 rfl rfl (evs_cons (tmA rfl rfl) <| evs_nil) (fright_c (kn : Int) num L n c rows _ (viewV hS.ok 1 rfl) hl (by omega) (fun r hr => Nat.le_trans (hf.1 r hr) (by decide))) ?_
  rintro e w ⟨rfl, hk⟩
  refine ⟨_, rfl, ?_⟩
  replace hS := hS.kept hk
  clear hk
  refine hK _ _ ?_; clear hK K
  refine wl_v (x_not (tmB rfl rfl)) ?_
  refine wl_nil ?_
  refine then_n (hK3 _ _ ?_); clear hK3 K3
  refine cnd (tm rfl) (fun hc0 => ?_) (fun hc0 => ?_)
  · exfalso
    exact absurd hf (by simpa using hc0)
  try (exfalso; first | with_reducible exact absurd hc0 Bool.false_ne_true | with_reducible exact absurd hc0.symm Bool.false_ne_true | (simp only [nrm] at hc0; omega) | (simp at hc0; done))
  all_goals
   try simp only [nrm] at hc0
   refine wp_skip ?_
   refine then_n (hK2 _ _ ?_); clear hK2 K2
   refine wp_seq_k ?_; intro K4 hK4
   refine wlit ?_
   refine wl_v (x_fa 0 Try.underlying29 rfl rfl ts_3 (tmP rfl rfl)) ?_
   first
    | refine wl_v (x_load Try.underlying3 rfl (tmP rfl rfl) (cellB hS.ok 0 rfl rfl)) ?_
    | refine wl_v (x_load Try.underlying3 rfl (tmP rfl rfl) (cellB hS.ok 0 rfl (getm (by omega)))) ?_
   first
    | refine wl_v (x_convN Try.underlying3 Try.underlying22 (tmI rfl rfl) (fit_u64 (by omega))) ?_
    | refine wl_v (x_convU Try.underlying3 Try.underlying22 (tmI rfl rfl) rfl) ?_
    | refine wl_v (x_conv Try.underlying3 Try.underlying22 (tmI rfl rfl)) ?_
   refine wl_e rfl ?_; intro K hK
   refine ow_call Try.func24 rfl rfl (evs_cons ev_c <| evs_cons (tmI rfl rfl) <| evs_cons (ev_cN 1) <| evs_nil) (put_c 0 none 0 [] kn 1 _ View.nil_ rfl (by omega) (by omega) (by omega)) ?_
   rintro e w ⟨ga, rfl, hn, hk⟩
   refine ⟨_, rfl, ?_⟩
   replace hS := hS.add hk hn -- +rowa
   clear hn hk
   refine hK _ _ ?_; clear hK K
   refine wl_v (x_assign (tmS rfl rfl)) ?_
   refine wl_nil ?_
   refine then_n (hK4 _ _ ?_); clear hK4 K4
   refine wp_seq_k ?_; intro K5 hK5
   refine wlit ?_
   refine wl_v (x_move (tmS rfl rfl)) ?_
   refine wl_v (x_fa 1 Try.underlying29 rfl rfl ts_22 (tmP rfl rfl)) ?_
   first
    | refine wl_v (x_load Try.underlying22 rfl (tmP rfl rfl) (cellB hS.ok 1 rfl rfl)) ?_
    | refine wl_v (x_load Try.underlying22 rfl (tmP rfl rfl) (cellB hS.ok 1 rfl (getm (by omega)))) ?_
   refine wl_e rfl ?_; intro K hK
   refine ow_call Try.func24 rfl rfl (evs_cons (tmS rfl rfl) <| evs_cons (tmI rfl rfl) <| evs_cons (ev_cN 8) <| evs_nil) (put_c _ _ _ _ num 8 _ (viewR hS.ok 0 rfl) (by simp [be_length]) (by omega) hnum (by omega)) ?_
   rintro e w ⟨gb, rfl, hn, hk⟩
   refine ⟨_, rfl, ?_⟩
   replace hS := (hS.add hk hn).pick [0, 2, 3] rfl rfl --ents rowb,g0_0,vw
   clear hn hk
   try replace hS := St.nm (M' := [.row _ _ _ _ _, .blk _ _ [_, _, _], .vw _ _]) hS rfl
   refine hK _ _ ?_; clear hK K
   refine wl_v (x_assign (tmS rfl rfl)) ?_
   refine wl_nil ?_
   refine then_n (hK5 _ _ ?_); clear hK5 K5
   refine wp_seq_k ?_; intro K6 hK6
   refine wlit ?_
   refine wl_v (x_move (tmS rfl rfl)) ?_
   refine wl_v (x_fa 2 Try.underlying29 rfl rfl ts_23 (tmP rfl rfl)) ?_
   first
    | refine wl_v (x_load Try.underlying23 rfl (tmP rfl rfl) (cellB hS.ok 1 rfl rfl)) ?_
    | refine wl_v (x_load Try.underlying23 rfl (tmP rfl rfl) (cellB hS.ok 1 rfl (getm (by omega)))) ?_
   refine wl_v (x_len Try.underlying23 (tmS rfl rfl)) ?_
   first
    | refine wl_v (x_convN Try.underlying3 Try.underlying22 (tmI rfl rfl) (fit_u64 (by omega))) ?_
    | refine wl_v (x_convU Try.underlying3 Try.underlying22 (tmI rfl rfl) rfl) ?_
    | refine wl_v (x_conv Try.underlying3 Try.underlying22 (tmI rfl rfl)) ?_
   refine wl_e rfl ?_; intro K hK
   refine ow_call Try.func24 rfl rfl (evs_cons (tmS rfl rfl) <| evs_cons (tmI rfl rfl) <| evs_cons (ev_cN 1) <| evs_nil) (put_c _ _ _ _ n 1 _ (viewR hS.ok 0 rfl) (by simp [be_length]) (by omega) (by omega) (by omega)) ?_
   rintro e w ⟨gc, rfl, hn, hk⟩
   refine ⟨_, rfl, ?_⟩
   replace hS := (hS.add hk hn).pick [0, 2, 3] rfl rfl --ents row,g0_0,vw
   clear hn hk
   try replace hS := St.nm (M' := [.row _ _ _ _ _, .blk _ _ [_, _, _], .vw _ _]) hS rfl
   refine hK _ _ ?_; clear hK K
   refine wl_v (x_assign (tmS rfl rfl)) ?_
   refine wl_nil ?_
   refine then_n (hK6 _ _ ?_); clear hK6 K6
   refine wp_seq_k ?_; intro K7 hK7
   refine wp_seq_k ?_; intro K8 hK8
   refine wlit ?_
   refine wl_v (x_fa 2 Try.underlying29 rfl rfl ts_23 (tmP rfl rfl)) ?_
   first
    | refine wl_v (x_load Try.underlying23 rfl (tmP rfl rfl) (cellB hS.ok 1 rfl rfl)) ?_
    | refine wl_v (x_load Try.underlying23 rfl (tmP rfl rfl) (cellB hS.ok 1 rfl (getm (by omega)))) ?_
   refine wl_v (x_len Try.underlying23 (tmS rfl rfl)) ?_
   refine wl_v (x_move (ev_cN 0)) ?_
   refine wl_nil ?_
   refine then_n (hK8 _ _ ?_); clear hK8 K8
   refine wp_block ?_
   rw [List.nil_append, show be kn 1 ++ be num 8 ++ be n 1 = fenc kn num rows 0 from by rw [← hl]; simp [fenc, fhd, fbody]] at hS
   refine lp [3, 5, 26, 27, 28, 29, 30, 31, 32, 33, 34, 35, 36, 37, 38] (fun mz g w => ∃ (k : Nat), ∃ (G : Option Addr), ∃ (m cg : Nat), mz = n - k ∧ g 26 = .int .i64 (k : Int) ∧ g 3 = .slice G m cg ∧ St [] w0 [.row (.slice G m cg) 5 1 m ((fenc kn num rows k).map u8v), .blk g0_0 29 (fmV (kn : Int) num L n c), .vw L (rows.map rowV)] w ∧ (k ≤ n) ∧ ((fenc kn num rows k).length = m)) ?_ ?_
   · exact ⟨_, 0, _, _, _, rfl, (by first | rfl | go_num | exact congrArg (Value.int _) (by first | omega | (simp; done) | (simp; omega))), (by first | rfl | go_num | exact congrArg (Value.int _) (by first | omega | (simp; done) | (simp; omega))), hS, (by omega), (by first | (rw [fenc_snoc _ _ _ _ (by omega), List.length_append, List.length_append, be_length]; omega) | (simp [fenc, fhd, be_length, fbody]; done))⟩
   · clear hS; intro mz g w hI
     obtain ⟨k, G, m, cg, rfl, hs26, hs3, hS, hk, hm⟩ := hI
     refine fr_know (d := 26) hs26 ?_; clear hs26
     refine fr_know (d := 3) hs3 ?_; clear hs3
     refine wp_seq_k ?_; intro K9 hK9
     refine wlit ?_
     refine wl_v (x_lss (tmI rfl rfl) (tmI rfl rfl)) ?_
     refine wl_nil ?_
     refine then_n (hK9 _ _ ?_); clear hK9 K9
     refine wp_seq_k ?_; intro K10 hK10
     refine cnd (tm rfl) (fun hc1 => ?_) (fun hc1 => ?_)
     · try (exfalso; first | with_reducible exact absurd hc1 Bool.false_ne_true | with_reducible exact absurd hc1.symm Bool.false_ne_true | (simp only [nrm] at hc1; omega) | (simp at hc1; done))
       all_goals
        try simp only [nrm] at hc1
        refine wp_skip ?_
        refine then_n (hK10 _ _ ?_); clear hK10 K10
        refine wp_seq_k ?_; intro K11 hK11
        refine wp_block ?_
        refine wp_seq_k ?_; intro K12 hK12
        obtain ⟨b4, o4, rfl⟩ := view_some (viewV hS.ok 2 rfl) (by rw [List.length_map]; omega)
        have hxl := hf.1 _ (frow_mem (rows := rows) (k := k) (by omega))
        have hmle := fenc_le kn num rows k
        have hmle2 := fenc_le kn num rows (k + 1)
        rw [fenc_snoc _ _ _ _ (by omega), List.length_append, List.length_append, be_length] at hmle2
        refine wlit ?_
        refine wl_v (x_ixs1 Try.underlying23 ts_26 (tmS rfl rfl) (tmI rfl rfl) (by omega)) ?_
        refine wl_v (x_load (v := .slice (rows.getD k default).1 (rows.getD k default).2.1.length (rows.getD k default).2.2) Try.underlying26 rfl (tmP rfl rfl) (cellV hS.ok 2 rfl (frow_at (by omega)))) ?_
        refine wl_v (x_assign (tmS rfl rfl)) ?_
        refine wl_nil ?_
        refine then_n (hK12 _ _ ?_); clear hK12 K12
        refine wp_seq_k ?_; intro K13 hK13
        refine wlit ?_
        refine wl_v (x_move (tmS rfl rfl)) ?_
        refine wl_v (x_move (tmS rfl rfl)) ?_
        refine wl_v (x_len Try.underlying26 (tmS rfl rfl)) ?_
        first
         | refine wl_v (x_convN Try.underlying3 Try.underlying22 (tmI rfl rfl) (fit_u64 (by omega))) ?_
         | refine wl_v (x_convU Try.underlying3 Try.underlying22 (tmI rfl rfl) rfl) ?_
         | refine wl_v (x_conv Try.underlying3 Try.underlying22 (tmI rfl rfl)) ?_
        refine wl_e rfl ?_; intro K hK
        refine ow_call Try.func24 rfl rfl (evs_cons (tmS rfl rfl) <| evs_cons (tmI rfl rfl) <| evs_cons (ev_cN 2) <| evs_nil) (put_c m G cg (fenc kn num rows k) (rows.getD k default).2.1.length 2 _ (viewR hS.ok 0 rfl) hm (by omega) (by omega) (by omega)) ?_
        rintro e w ⟨gd, rfl, hn, hk2⟩
        refine ⟨_, rfl, ?_⟩
        replace hS := (hS.add hk2 hn).pick [0, 2, 3] rfl rfl --ents row,g0_0,vw
        clear hn hk2
        try replace hS := St.nm (M' := [.row _ _ _ _ _, .blk _ _ [_, _, _], .vw _ _]) hS rfl
        refine hK _ _ ?_; clear hK K
        refine wl_v (x_assign (tmS rfl rfl)) ?_
        refine wl_nil ?_
        refine then_n (hK13 _ _ ?_); clear hK13 K13
        have hvk : View w w.heap.size (rows.getD k default).1 ((rows.getD k default).2.1.map u8v) := (hV.kept hS.kp) _ (frow_mem (by omega))
        refine wlit ?_
        refine wl_v (x_move (tmS rfl rfl)) ?_
        refine wl_v (x_move (tmS rfl rfl)) ?_
        refine wl_e rfl ?_; intro K hK
        refine ow_appendV hS 0 rfl hvk Try.underlying26 tz_5 rfl (tmS rfl rfl) (tmS rfl rfl) (u8v_one _) ⟨by decide, by rw [List.length_map, Nat.mul_one]⟩ (by simp only [maxLen]; omega) (by omega) ?_
        clear hS; intro gz cz w hAz hCz hS
        refine hK _ _ ?_; clear hK K
        refine wl_v (x_assign (tmS rfl rfl)) ?_
        refine wl_nil ?_
        refine inb_n ?_
        refine then_n (hK11 _ _ ?_); clear hK11 K11
        refine wlit ?_
        first
         | refine wl_v (x_addN (tmI rfl rfl) (ev_cN 1) (fit_i64 (by omega))) ?_
         | refine wl_v (x_addI (tmI rfl rfl) (ev_cN 1) (IntWalk.i64_in _ (by omega))) ?_
         | refine wl_v (x_add (tmI rfl rfl) (ev_cN 1)) ?_
        refine wl_v (x_move (tmI rfl rfl)) ?_
        refine wl_nil ?_
        exact then_n ⟨_, _, rfl, (by show _ < _; omega), (by repeat (first | exact agree_self | exact agree_refl | refine agree_upd rfl ?_ | refine agree_mix rfl ?_)), k + 1, _, _, _, rfl, (by first | rfl | go_num | exact congrArg (Value.int _) (by first | omega | (simp; done) | (simp; omega))), (by first | rfl | go_num | exact congrArg (Value.int _) (by first | omega | (simp; done) | (simp; omega))), (by rw [fenc_snoc _ _ _ _ (by omega), List.map_append]; exact hS.pick [0, 1, 2] rfl rfl), (by omega), (by first | (rw [fenc_snoc _ _ _ _ (by omega), List.length_append, List.length_append, be_length]; omega) | (simp [fenc, fhd, be_length, fbody]; done))⟩
     try (exfalso; first | with_reducible exact absurd hc1 Bool.false_ne_true | with_reducible exact absurd hc1.symm Bool.false_ne_true | (simp only [nrm] at hc1; omega) | (simp at hc1; done))
     all_goals
      try simp only [nrm] at hc1
      refine wp_exit ?_
      refine then_x ?_; clear hK10 K10
      refine then_x ?_
      refine inb_x ?_
      refine then_n (hK7 _ _ ?_); clear hK7 K7
      refine wp_seq_k ?_; intro K14 hK14
      refine wlit ?_
      refine wl_v (x_move (tmS rfl rfl)) ?_
      refine wl_v (x_assign (tmS rfl rfl)) ?_
      refine wl_nil ?_
      refine then_n (hK14 _ _ ?_); clear hK14 K14
      refine wp_ret ?_
      refine ret1 rfl (.tmp rfl (show _ = Value.slice _ _ _ from rfl)) ?_
      obtain rfl : n = k := by omega
      exact ⟨G, m, cg, rfl, hm.symm, row_cap (hS.rowOk 0 rfl) (by decide), hS.new 0 rfl rfl, hS.kp⟩
end Go.Proofs.Ytmokaeflnlajgaa
