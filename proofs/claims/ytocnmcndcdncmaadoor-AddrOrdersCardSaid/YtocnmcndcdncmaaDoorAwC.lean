
/- addr's Text of the chapter's example, by contract. Conditions: none. -/
import Derived.Test.YtocnmcndcdncmaaDoorAwB
namespace Go.Proofs.YtocnmcndcdncmaaDoor
open Go.RowKit
def tB (k : Nat) : ByteArray := if k = 0 then ⟨#[49, 48]⟩ else if k = 3 then ⟨#[49]⟩ else ⟨#[48]⟩
def tN (k : Nat) : Nat := if k = 0 then 10 else if k = 3 then 1 else 0
theorem dd1 : Lib.decDigits 10 = [49, 48] := by first | decide +kernel | (rw [Lib.decDigits]; rfl) | simp [Lib.decDigits]
theorem dd2 : Lib.decDigits 0 = [48] := by first | decide +kernel | (rw [Lib.decDigits]; rfl) | simp [Lib.decDigits]
theorem dd3 : Lib.decDigits 1 = [49] := by first | decide +kernel | (rw [Lib.decDigits]; rfl) | simp [Lib.decDigits]
theorem dec_c (k : Nat) (w0 : World) (hk : k < 4) :
    Calls Tryd.prog 37 #[.int .i64 (tN k : Int)] w0 fun e w' => e = .returned (.string (tB k)) ∧ Kp [] w0 w' := by
  rcases (by omega : k = 0 ∨ k = 1 ∨ k = 2 ∨ k = 3) with rfl | rfl | rfl | rfl
  · exact (Tryd.strconv_Itoa_small 10 (by omega) w0).mono fun e w' ⟨he, hw⟩ => ⟨he.trans (by rw [dd1]; rfl), hw ▸ Kp.refl [] _⟩
  · exact (Tryd.strconv_Itoa_small 0 (by omega) w0).mono fun e w' ⟨he, hw⟩ => ⟨he.trans (by rw [dd2]; rfl), hw ▸ Kp.refl [] _⟩
  · exact (Tryd.strconv_Itoa_small 0 (by omega) w0).mono fun e w' ⟨he, hw⟩ => ⟨he.trans (by rw [dd2]; rfl), hw ▸ Kp.refl [] _⟩
  · exact (Tryd.strconv_Itoa_small 1 (by omega) w0).mono fun e w' ⟨he, hw⟩ => ⟨he.trans (by rw [dd3]; rfl), hw ▸ Kp.refl [] _⟩
set_option maxRecDepth 100000 in
set_option maxHeartbeats 4000000 in
theorem decimal_c (k : Nat) (w0 : World) (hk : k < 4) :
    Calls Tryd.prog 29 #[.int .i64 (tN k : Int)] w0 fun e w' => e = .returned (.string (tB k)) ∧ Kp [] w0 w' := by
  have hS := St.sv w0
  have hm1 : max (tN k) 0 = tN k := by omega
  refine ent (n := 6) Tryd.func29 rfl rfl ?_
  refine wp_seq_k ?_; intro K1 hK1
  refine wlit ?_
  refine wl_v (x_assign ev_c) ?_
  refine wl_nil ?_
  refine then_n (hK1 _ _ ?_); clear hK1 K1
  refine wp_seq_k ?_; intro K2 hK2
  refine wlit ?_
  refine wl_v (x_move (tmI rfl rfl)) ?_
  refine wl_v (x_max (n := 0) (tmI rfl rfl) (ev_cN 0)) ?_
  refine wl_e rfl ?_; intro K hK
  refine ow_call Tryd.func37 rfl rfl (evs_cons (tmI rfl rfl) <| evs_nil) ((hm1 ▸ dec_c k _ hk)) ?_
  rintro e w ⟨rfl, hk2⟩
  refine ⟨_, rfl, ?_⟩
  replace hS := hS.kept hk2
  clear hk2
  refine hK _ _ ?_; clear hK K
  refine wl_v (x_assign (tmG rfl rfl)) ?_
  refine wl_nil ?_
  refine then_n (hK2 _ _ ?_); clear hK2 K2
  refine wp_ret ?_
  refine ret1 rfl (.tmp rfl rfl) ?_
  exact ⟨rfl, hS.kp⟩
theorem joinS_c (bk o c : Nat) (w : World) (hv : View w w.heap.size (some ⟨bk, o, none⟩) [.string (tB 0), .string (tB 1), .string (tB 2), .string (tB 3)]) (hc : 4 ≤ c) :
    Calls Tryd.prog 31 #[.slice (some ⟨bk, o, none⟩) 4 c, .string ⟨#[46]⟩] w fun e w' => e = .returned (.string ⟨#[49, 48, 46, 48, 46, 48, 46, 49]⟩) ∧ Kp [] w w' := by
  obtain ⟨b, o', hb, hlt, hcell⟩ := hv (by simp)
  obtain ⟨rfl, rfl⟩ : bk = b ∧ o = o' := by simpa using hb
  refine (Tryd.strings_Join bk o c [tB 0, tB 1, tB 2, tB 3] ⟨#[46]⟩ w (fun j x hx => hcell j _ ?_) hlt (by decide) hc (by decide +kernel)).mono fun e w' ⟨he, hw⟩ => ⟨he.trans ?_, Kp.of_below hw⟩
  · have := congrArg (Option.map Value.string) hx
    rw [← List.getElem?_map] at this
    exact this
  · kernel_rfl
def tP (k : Nat) : List Value := (List.range k).map fun i => .string (tB i)
set_option maxRecDepth 100000 in
set_option maxHeartbeats 4000000 in
theorem text_ex (w0 : World) :
    Calls Tryd.prog 15 #[.agg (Ad.V ⟨false, 0, 167772161⟩).toArray] w0 fun e w' => e = .returned (.string ⟨#[49, 48, 46, 48, 46, 48, 46, 49]⟩) ∧ Kp [] w0 w' := by
  have hS := St.sv w0
  have hB : adB ⟨false, 0, 167772161⟩ = [10, 0, 0, 1] := by decide +kernel
  refine ent (n := 32) Tryd.func15 rfl rfl ?_
  refine wp_seq_k ?_; intro K1 hK1
  refine wlit ?_
  refine wl_e rfl ?_; intro K hK
  refine ow_box hS (tmA rfl rfl) rfl ?_
  clear hS; intro g0_0 w hg0_0 hS
  refine hK _ _ ?_; clear hK K
  refine wl_v (x_assign ev_c) ?_
  refine wl_nil ?_
  refine then_n (hK1 _ _ ?_); clear hK1 K1
  refine wp_seq_k ?_; intro K2 hK2
  refine wlit ?_
  refine wl_v (x_loadA (cs := [_, _, _]) Tryd.underlying24 rfl ts_24 (tmP rfl rfl) (rangeB hS.ok 0 rfl rfl)) ?_
  refine wl_e rfl ?_; intro K hK
  refine ow_call Tryd.func17 rfl rfl (evs_cons (tmA rfl rfl) <| evs_nil) (ad_bytes_c ⟨false, 0, 167772161⟩ _ ⟨by decide, by decide⟩) ?_
  rintro e w ⟨A', n', c', hn', rfl, hn, hk⟩
  refine ⟨_, rfl, ?_⟩
  obtain rfl : n' = 4 := hn'
  rw [hB] at hn
  replace hS := hS.addn hk (New.view hn) -- +vb
  clear hk hn
  refine hK _ _ ?_; clear hK K
  refine wl_e rfl ?_; intro K hK
  refine ow_call Tryd.func25 rfl rfl (evs_cons (tmS rfl rfl) <| evs_nil) (read_c 4 A' c' [10, 0, 0, 1] _ (viewV hS.ok 0 rfl) rfl (by omega)) ?_
  rintro e w ⟨gr, A0, rfl, hS2⟩
  refine ⟨_, rfl, ?_⟩
  replace hS := hS.adds hS2 rfl -- +gr,rowb
  clear hS2
  refine hK _ _ ?_; clear hK K
  refine wl_v (x_assign (tmP rfl rfl)) ?_
  refine wl_nil ?_
  refine then_n (hK2 _ _ ?_); clear hK2 K2
  refine wp_seq_k ?_; intro K3 hK3
  refine wlit ?_
  refine wl_v (x_assign ev_c) ?_
  refine wl_nil ?_
  refine then_n (hK3 _ _ ?_); clear hK3 K3
  refine wp_seq_k ?_; intro K4 hK4
  refine wp_block ?_
  refine lp [4, 8, 9, 10, 11, 12, 13, 14, 15, 16, 17, 18, 19, 20, 21, 22, 23, 24, 25] (fun mz g w => ∃ (k : Nat), ∃ (A1 A2 : Option Addr), ∃ (c1 c2 : Nat), mz = 4 - k ∧ g 4 = .slice A2 k c2 ∧ St [] w0 [.row (.slice A2 k c2) 9 1 k (tP k), .blk gr 67 (rdV A1 (4 - k) c1 false), .row (.slice A0 4 4) 5 1 4 ([10, 0, 0, 1].map u8v), .blk g0_0 24 (Ad.V ⟨false, 0, 167772161⟩)] w ∧ (k ≤ 4) ∧ (Off A0 k 4 A1) ∧ (4 - k ≤ c1)) ?_ ?_
  · exact ⟨_, 0, A0, none, 4, 0, rfl, (by first | rfl | go_num | exact congrArg (Value.int _) (by first | omega | (simp; done) | (simp; omega))), ((hS.nilrow 9 1).pick [0, 1, 2, 4] rfl rfl), (by omega), (by first | exact off_zero | exact hA), (by omega)⟩
  · clear hS; intro mz g w hI
    obtain ⟨k, A1, A2, c1, c2, rfl, hs4, hS, hk, hA, hcp⟩ := hI
    refine fr_know (d := 4) hs4 ?_; clear hs4
    refine wp_seq_k ?_; intro K5 hK5
    refine wp_seq_k ?_; intro K6 hK6
    refine wlit ?_
    refine wl_v (x_move (tmP rfl rfl)) ?_
    refine wl_e rfl ?_; intro K hK
    refine ow_call Tryd.func26 rfl rfl (evs_cons (tmP rfl rfl) <| evs_nil) (left_c gr A1 (4 - k) c1 false _ (viewB hS.ok 1 rfl)) ?_
    rintro e w ⟨rfl, hk2⟩
    refine ⟨_, rfl, ?_⟩
    replace hS := hS.kept hk2
    clear hk2
    refine hK _ _ ?_; clear hK K
    refine wl_v (x_gtr (tmI rfl rfl) (ev_cN 0)) ?_
    refine wl_nil ?_
    refine then_n (hK6 _ _ ?_); clear hK6 K6
    refine cnd (tm rfl) (fun hc0 => ?_) (fun hc0 => ?_)
    · try (exfalso; first | with_reducible exact absurd hc0 Bool.false_ne_true | with_reducible exact absurd hc0.symm Bool.false_ne_true | (simp only [nrm] at hc0; omega) | (simp at hc0; done))
      all_goals
       try simp only [nrm] at hc0
       have hk4 : k < 4 := by omega
       have hgb : getN [10, 0, 0, 1] k 1 = tN k := by
         rcases (by omega : k = 0 ∨ k = 1 ∨ k = 2 ∨ k = 3) with rfl | rfl | rfl | rfl <;> rfl
       have hlb : Bytes [10, 0, 0, 1] := by unfold Bytes; simp
       have htn : tN k ≤ 10 := by unfold tN; split <;> (try split) <;> omega
       refine wp_skip ?_
       refine then_n (hK5 _ _ ?_); clear hK5 K5
       refine wp_block ?_
       refine wp_seq_k ?_; intro K7 hK7
       refine wlit ?_
       refine wl_v (x_fa 0 Tryd.underlying24 rfl rfl ts_4 (tmP rfl rfl)) ?_
       first
        | refine wl_v (x_load Tryd.underlying4 rfl (tmP rfl rfl) (cellB hS.ok 3 rfl rfl)) ?_
        | refine wl_v (x_load Tryd.underlying4 rfl (tmP rfl rfl) (cellB hS.ok 3 rfl (getm (by omega)))) ?_
       refine wl_nil ?_
       refine then_n (hK7 _ _ ?_); clear hK7 K7
       refine cnd (tm rfl) (fun hc1 => ?_) (fun hc1 => ?_)
       · try (exfalso; first | with_reducible exact absurd hc1 Bool.false_ne_true | with_reducible exact absurd hc1.symm Bool.false_ne_true | (simp only [nrm] at hc1; omega) | (simp at hc1; done))
         all_goals
          try simp only [nrm] at hc1
          refine wlit ?_
          refine wl_v (x_move (tmS rfl rfl)) ?_
          refine wl_v (x_move (tmP rfl rfl)) ?_
          refine wl_e rfl ?_; intro K hK
          fail "no contract for (*counterfoil/octet.Reader).Num (r5.2)"
       try (exfalso; first | with_reducible exact absurd hc1 Bool.false_ne_true | with_reducible exact absurd hc1.symm Bool.false_ne_true | (simp only [nrm] at hc1; omega) | (simp at hc1; done))
       all_goals
        try simp only [nrm] at hc1
        refine wlit ?_
        refine wl_v (x_move (tmS rfl rfl)) ?_
        refine wl_v (x_move (tmP rfl rfl)) ?_
        refine wl_e rfl ?_; intro K hK
        refine ow_call Tryd.func30 rfl rfl (evs_cons (tmP rfl rfl) <| evs_nil) (byte_c gr A0 A1 k 4 c1 [10, 0, 0, 1] false _ _ (hS.enter [1] [2] rfl rfl) hA (by omega) hcp rfl hlb) ?_
        rintro e w ⟨A3, c3, rfl, hS2, hA, hcp⟩
        refine ⟨_, rfl, ?_⟩
        replace hS := hS.turn 1 rfl rfl hS2 rfl
        clear hS2
        rw [hgb]
        try replace hS := St.nm (M' := [.row _ _ _ _ _, _, .row _ _ _ _ _, .blk _ _ [_, _, _]]) hS rfl
        refine hK _ _ ?_; clear hK K
        first
         | refine wl_v (x_convN Tryd.underlying5 Tryd.underlying3 (tmI rfl rfl) (fit_i64 (by omega))) ?_
         | refine wl_v (x_conv Tryd.underlying5 Tryd.underlying3 (tmI rfl rfl)) ?_
        refine wl_e rfl ?_; intro K hK
        refine ow_call Tryd.func29 rfl rfl (evs_cons (tmI rfl rfl) <| evs_nil) (decimal_c k _ hk4) ?_
        rintro e w ⟨rfl, hk2⟩
        refine ⟨_, rfl, ?_⟩
        replace hS := hS.kept hk2
        clear hk2
        refine hK _ _ ?_; clear hK K
        refine wl_e rfl ?_; intro K hK
        refine ow_build hS Tryd.underlying54 tz_9 (bc_take (tmG rfl rfl) <| bc_nil) rfl rfl (by kernel_rfl) ?_
        clear hS; intro g6_5 w hg6_5 hS
        refine hK _ _ ?_; clear hK K
        refine wl_e rfl ?_; intro K hK
        first
         | (refine ow_append hS 1 0 rfl rfl Tryd.underlying54 tz_9 rfl (tmS rfl rfl) (tmS rfl rfl) rfl ⟨by decide, by decide, rfl⟩ (by simp only [maxLen]; omega) (by omega) ?_; clear hS; intro g6_6 cg6_6 w hS)
         | (refine ow_append hS 3 0 rfl rfl Tryd.underlying54 tz_9 rfl (tmS rfl rfl) (tmS rfl rfl) rfl ⟨by decide, by decide, rfl⟩ (by simp only [maxLen]; omega) (by omega) ?_; clear hS; intro g6_6 cg6_6 w hS)
        refine hK _ _ ?_; clear hK K
        refine wl_v (x_assign (tmS rfl rfl)) ?_
        refine wl_nil ?_
        refine inb_n ?_
        exact then_n ⟨_, _, rfl, (by show _ < _; omega), (by repeat (first | exact agree_self | exact agree_refl | refine agree_upd rfl ?_ | refine agree_mix rfl ?_)), k + 1, A3, some ⟨g6_6, 0, none⟩, c3, cg6_6, rfl, (by first | rfl | go_num | exact congrArg (Value.int _) (by first | omega | (simp; done) | (simp; omega))), (by rw [show tP (k + 1) = tP k ++ [.string (tB k)] by unfold tP; rw [List.range_succ, List.map_append]; rfl]; exact hS.pick [1, 2, 3, 4] rfl rfl), (by omega), (by first | exact off_zero | exact hA), (by omega)⟩
    try (exfalso; first | with_reducible exact absurd hc0 Bool.false_ne_true | with_reducible exact absurd hc0.symm Bool.false_ne_true | (simp only [nrm] at hc0; omega) | (simp at hc0; done))
    all_goals
     try simp only [nrm] at hc0
     obtain rfl : k = 4 := by omega
     obtain ⟨b2, o2, rfl⟩ := view_some (viewR hS.ok 0 rfl) (by decide)
     have hcap : 4 ≤ c2 := row_cap (hS.ok _ List.mem_cons_self) (by decide)
     refine wp_exit ?_
     refine then_x ?_; clear hK5 K5
     refine then_x ?_
     refine inb_x ?_
     refine then_n (hK4 _ _ ?_); clear hK4 K4
     refine wp_seq_k ?_; intro K8 hK8
     refine wp_seq_k ?_; intro K9 hK9
     refine wlit ?_
     refine wl_v (x_fa 0 Tryd.underlying24 rfl rfl ts_4 (tmP rfl rfl)) ?_
     first
      | refine wl_v (x_load Tryd.underlying4 rfl (tmP rfl rfl) (cellB hS.ok 3 rfl rfl)) ?_
      | refine wl_v (x_load Tryd.underlying4 rfl (tmP rfl rfl) (cellB hS.ok 3 rfl (getm (by omega)))) ?_
     refine wl_nil ?_
     refine then_n (hK9 _ _ ?_); clear hK9 K9
     refine cnd (tm rfl) (fun hc2 => ?_) (fun hc2 => ?_)
     · try (exfalso; first | with_reducible exact absurd hc2 Bool.false_ne_true | with_reducible exact absurd hc2.symm Bool.false_ne_true | (simp only [nrm] at hc2; omega) | (simp at hc2; done))
       all_goals
        try simp only [nrm] at hc2
        refine wp_seq_k ?_; intro K10 hK10
        refine wlit ?_
        refine wl_v (x_move (tmS rfl rfl)) ?_
        refine wl_e rfl ?_; intro K hK
        refine ow_call Tryd.func31 rfl rfl (evs_cons (tmS rfl rfl) <| evs_cons ev_c <| evs_nil) (joinS_c b2 o2 c2 _ (viewR hS.ok 0 rfl) hcap) ?_
        rintro e w ⟨rfl, hk2⟩
        refine ⟨_, rfl, ?_⟩
        replace hS := hS.kept hk2
        clear hk2
        refine hK _ _ ?_; clear hK K
        refine wl_v (x_assign (tmG rfl rfl)) ?_
        refine wl_nil ?_
        refine then_n (hK10 _ _ ?_); clear hK10 K10
        refine wp_ret ?_
        refine then_r ?_
        refine ret1 rfl (.tmp rfl rfl) ?_
        exact ⟨rfl, hS.kp⟩
     try (exfalso; first | with_reducible exact absurd hc2 Bool.false_ne_true | with_reducible exact absurd hc2.symm Bool.false_ne_true | (simp only [nrm] at hc2; omega) | (simp at hc2; done))
     all_goals
      try simp only [nrm] at hc2
      refine wp_skip ?_
      refine then_n (hK8 _ _ ?_); clear hK8 K8
      refine wp_seq_k ?_; intro K11 hK11
      refine wlit ?_
      refine wl_v (x_move (tmS rfl rfl)) ?_
      refine wl_e rfl ?_; intro K hK
      refine ow_call Tryd.func31 rfl rfl (evs_cons (tmS rfl rfl) <| evs_cons ev_c <| evs_nil) (joinS_c b2 o2 c2 _ (viewR hS.ok 0 rfl) hcap) ?_
      rintro e w ⟨rfl, hk2⟩
      refine ⟨_, rfl, ?_⟩
      replace hS := hS.kept hk2
      clear hk2
      refine hK _ _ ?_; clear hK K
      refine wl_v (x_assign (tmG rfl rfl)) ?_
      refine wl_nil ?_
      refine then_n (hK11 _ _ ?_); clear hK11 K11
      refine wp_ret ?_
      refine ret1 rfl (.tmp rfl rfl) ?_
      exact ⟨rfl, hS.kp⟩
set_option maxRecDepth 100000 in
set_option maxHeartbeats 4000000 in
theorem awake3_c (w0 : World) (hm : MaxL w0) :
    Calls Tryd.prog 7 #[] w0 fun e w' => e = .returned (.bool true) ∧ Kp [] w0 w' := by
  have hS := St.sv w0
  have he : ((⟨#[49, 48, 46, 48, 46, 48, 46, 49]⟩ : ByteArray).toList == (⟨#[49, 48, 46, 48, 46, 48, 46, 49]⟩ : ByteArray).toList) = true := beq_self_eq_true _
  refine ent (n := 14) Tryd.func7 rfl rfl ?_
  refine wp_seq_k ?_; intro K1 hK1
  refine wlit ?_
  refine wl_v (x_assign ev_c) ?_
  refine wl_nil ?_
  refine then_n (hK1 _ _ ?_); clear hK1 K1
  refine wp_seq_k ?_; intro K2 hK2
  refine wlit ?_
  refine wl_e rfl ?_; intro K hK
  refine ow_call Tryd.func14 rfl rfl (evs_cons ev_c <| evs_nil) (parse_ex _ (hm.kp hS.kp)) ?_
  rintro e w ⟨rfl, hk⟩
  refine ⟨_, rfl, ?_⟩
  replace hS := hS.kept hk
  clear hk
  refine hK _ _ ?_; clear hK K
  refine wl_v (x_move (tmT rfl rfl)) ?_
  refine wl_v (x_ext (tmT rfl rfl) rfl) ?_
  refine wl_v (x_ext (tmT rfl rfl) rfl) ?_
  refine wl_e rfl ?_; intro K hK
  refine ow_alloc hS tz_24 rfl ?_
  clear hS; intro g1_4 w hg1_4 hS
  refine hK _ _ ?_; clear hK K
  refine wl_e rfl ?_; intro K hK
  refine ow_storeA hS 0 rfl ts_24 (tmP rfl rfl) (tmA rfl rfl) rfl rfl rfl ?_
  clear hS; intro w hS
  try replace hS := St.nm (M' := [.blk _ _ [_, _, _], _]) hS rfl
  refine hK _ _ ?_; clear hK K
  refine wl_v (x_assign (tmI rfl rfl)) ?_
  refine wl_nil ?_
  refine then_n (hK2 _ _ ?_); clear hK2 K2
  refine wp_seq_k ?_; intro K3 hK3
  refine wlit ?_
  refine wl_e rfl ?_; intro K hK
  refine ow_call Tryd.func16 rfl rfl (evs_cons (ev_cN 10) <| evs_cons (ev_cN 0) <| evs_cons (ev_cN 0) <| evs_cons (ev_cN 1) <| evs_nil) (ad_v4_c _) ?_
  rintro e w ⟨rfl, hk⟩
  refine ⟨_, rfl, ?_⟩
  replace hS := hS.kept hk
  clear hk
  refine hK _ _ ?_; clear hK K
  refine wl_e rfl ?_; intro K hK
  refine ow_call Tryd.func15 rfl rfl (evs_cons (tmA rfl rfl) <| evs_nil) (text_ex _) ?_
  rintro e w ⟨rfl, hk⟩
  refine ⟨_, rfl, ?_⟩
  replace hS := hS.kept hk
  clear hk
  refine hK _ _ ?_; clear hK K
  refine wl_v (x_eqv (res := true) (.inl rfl) (tmG rfl rfl) ev_c (fun _ => rfl) (fun w => by rw [run_Geql, he])) ?_
  refine wl_v (x_move (tmB rfl rfl)) ?_
  refine gs_wl (tm (t := 10) rfl) (fun hg2_3 => ?_) (fun hg2_3 => ?_)
  · have hg2_3' := hg2_3; (try simp only [nrm] at hg2_3'); try (exfalso; first | with_reducible exact absurd hg2_3 Bool.false_ne_true | with_reducible exact absurd hg2_3.symm Bool.false_ne_true | omega | (simp at hg2_3; done))
    all_goals
     refine wl_gv (want_y rfl rfl rfl rfl (by rw [hg2_3]; rfl)) (x_move (tmI rfl rfl)) ?_
     refine wl_gv (want_y rfl rfl rfl rfl (by rw [hg2_3]; rfl)) (x_eql (tmI rfl rfl) (ev_cN 21)) ?_
     refine wl_v (x_pickT (tmB rfl rfl) hg2_3 (tmB rfl rfl)) ?_
     refine wl_v (x_assign (tmB rfl rfl)) ?_
     refine wl_nil ?_
     refine then_n (hK3 _ _ ?_); clear hK3 K3
     refine wp_ret ?_
     refine ret1 rfl (.tmp rfl (show _ = Value.bool _ from rfl)) ?_
     exact ⟨rfl, hS.kp⟩
  have hg2_3' := hg2_3; (try simp only [nrm] at hg2_3'); try (exfalso; first | with_reducible exact absurd hg2_3 Bool.false_ne_true | with_reducible exact absurd hg2_3.symm Bool.false_ne_true | omega | (simp at hg2_3; done))
  all_goals
   refine wl_s rfl (want_n rfl rfl rfl rfl (by rw [hg2_3]; rfl)) ?_
   refine wl_s rfl (want_n rfl rfl rfl rfl (by rw [hg2_3]; rfl)) ?_
   refine wl_v (x_pickF (tmB rfl rfl) hg2_3 ev_c) ?_
   refine wl_v (x_assign (tmB rfl rfl)) ?_
   refine wl_nil ?_
   refine then_n (hK3 _ _ ?_); clear hK3 K3
   refine wp_ret ?_
   refine ret1 rfl (.tmp rfl (show _ = Value.bool _ from rfl)) ?_
   exact ⟨rfl, hS.kp⟩
end Go.Proofs.YtocnmcndcdncmaaDoor
