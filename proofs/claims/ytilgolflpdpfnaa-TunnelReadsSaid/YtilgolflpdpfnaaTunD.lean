/- tunnel: the reference's Unwrap, by contract. Conditions: none but bounds. -/
import Derived.Test.YtilgolflpdpfnaaTunC
namespace Go.Proofs.Ytilgolflpdpfnaa
open Go.RowKit
theorem sixNP {x : List Nat} (h : sixE x = 0) : (sixN x = 6 ∧ decide (sixP x) = true) ∨ (sixN x = 4 ∧ decide (sixP x) = false) := by
  by_cases h0 : x.length = 0
  · have := (sx0 h0).1; omega
  · by_cases h4 : nth x 0 / 16 = 4
    · exact .inr ⟨(sx4 h0 h4).2.2, (sx4 h0 h4).2.1⟩
    · by_cases h6 : nth x 0 / 16 = 6
      · exact .inl ⟨(sx6 h0 h6).2.2, (sx6 h0 h6).2.1⟩
      · have := (sxo h0 h4 h6).1; omega
theorem fin4' {er pr : Nat} {x : List Nat} (h : er = 0) (h1 : pr = 4 ∨ pr = 41) (h2 : sixE x = 0) (h3 : (sixN x = 6 ∧ pr ≠ 41) ∨ (sixN x ≠ 6 ∧ pr = 41)) : finE er pr x = 21 := by
  refine fin4 h h1 h2 ?_
  rcases sixNP h2 with ⟨a, b⟩ | ⟨a, b⟩ <;> rw [b] <;> simp only [cond] <;> omega
theorem fin5' {er pr : Nat} {x : List Nat} (h : er = 0) (h1 : pr = 4 ∨ pr = 41) (h2 : sixE x = 0) (h3 : (sixN x = 6 ∧ pr = 41) ∨ (sixN x ≠ 6 ∧ pr ≠ 41)) : finE er pr x = 0 := by
  refine fin5 h h1 h2 ?_
  rcases sixNP h2 with ⟨a, b⟩ | ⟨a, b⟩ <;> rw [b] <;> simp only [cond] <;> omega

set_option maxRecDepth 100000 in
set_option maxHeartbeats 4000000 in
theorem runwrap0 {l : List Nat} (hb : Bytes l) (hn4 : l.length ≤ 3000) (h : sixE l ≠ 0) : HU 19 l [] 0 0 (sixE l) ad0_ ad0_ := by
  intro w0 A c hv hc
  have hS := (St.sv w0).vcons rfl hv
  have hbd : sixE l ≤ 21 := by unfold sixE; split <;> (try split) <;> omega
  have hsx := fun w (hv : View w w.heap.size A (l.map u8v)) => rsix_c l.length A c l w hv rfl hb (by omega)
  have hfl := fault_c l
  generalize sixE l = E at *
  generalize sixN l = Z at *
  refine ent (n := 99) Try.func19 rfl rfl ?_
  refine wp_seq_k ?_; intro K1 hK1
  refine wlit ?_
  refine wl_v (x_assign ev_c) ?_
  refine wl_e rfl ?_; intro K hK
  refine ow_alloc hS tz_32 rfl ?_
  clear hS; intro g0_1 w hg0_1 hS
  refine hK _ _ ?_; clear hK K
  refine wl_v (x_assign (ev_cN 0)) ?_
  refine wl_nil ?_
  refine then_n (hK1 _ _ ?_); clear hK1 K1
  refine wp_seq_k ?_; intro K2 hK2
  refine wlit ?_
  refine wl_v (x_move (tmS rfl rfl)) ?_
  refine wl_e rfl ?_; intro K hK
  refine ow_call Try.func21 rfl rfl (evs_cons (tmS rfl rfl) <| evs_nil) (hsx _ (viewV hS.ok 1 rfl)) ?_
  rintro e w ⟨rfl, hk⟩
  refine ⟨_, rfl, ?_⟩
  replace hS := hS.kept hk
  clear hk
  refine hK _ _ ?_; clear hK K
  refine wl_v (x_assign (tmI rfl rfl)) ?_
  refine wl_nil ?_
  refine then_n (hK2 _ _ ?_); clear hK2 K2
  refine wp_seq_k ?_; intro K3 hK3
  refine wp_seq_k ?_; intro K4 hK4
  refine wlit ?_
  refine wl_v (x_move (tmI rfl rfl)) ?_
  refine wl_e rfl ?_; intro K hK
  refine ow_call Try.func87 rfl rfl (evs_cons (tmI rfl rfl) <| evs_nil) (hfl _) ?_
  rintro e w ⟨rfl, hk⟩
  refine ⟨_, rfl, ?_⟩
  replace hS := hS.kept hk
  clear hk
  refine hK _ _ ?_; clear hK K
  refine wl_v (x_neq (tmI rfl rfl) (ev_cN 0)) ?_
  refine wl_nil ?_
  refine then_n (hK4 _ _ ?_); clear hK4 K4
  refine cnds (tm rfl) (fun hc0 => ?_) (fun hc0 => ?_)
  · exfalso
    simp only [nrm] at hc0
    omega
  try (exfalso; first | with_reducible exact absurd hc0 Bool.false_ne_true | with_reducible exact absurd hc0.symm Bool.false_ne_true | (simp only [nrm] at hc0; omega) | (simp at hc0; done))
  all_goals
   try simp only [nrm] at hc0
   refine wp_seq_k ?_; intro K5 hK5
   refine wlit ?_
   refine wl_v (x_build (bc_skipL [.bool false, .int .u64 0, .int .u64 0] <| bc_skipL [.bool false, .int .u64 0, .int .u64 0] <| bc_skip (.int .u8 0) <| bc_nil) (by kernel_rfl)) ?_
   refine wl_v (x_move (tmI rfl rfl)) ?_
   refine wl_e rfl ?_; intro K hK
   refine ow_call Try.func87 rfl rfl (evs_cons (tmI rfl rfl) <| evs_nil) (hfl _) ?_
   rintro e w ⟨rfl, hk⟩
   refine ⟨_, rfl, ?_⟩
   replace hS := hS.kept hk
   clear hk
   refine hK _ _ ?_; clear hK K
   refine wl_v (x_assign ev_c) ?_
   refine wl_e rfl ?_; intro K hK
   refine ow_storeA hS 0 rfl ts_32 (tmP rfl rfl) (tmA rfl rfl) rfl rfl rfl ?_
   clear hS; intro w hS
   try replace hS := St.nm (M' := [.blk _ _ [_, _, _, _, _, _, _], .vw _ _]) hS rfl
   refine hK _ _ ?_; clear hK K
   refine wl_v (x_assign (tmI rfl rfl)) ?_
   refine wl_nil ?_
   refine then_n (hK5 _ _ ?_); clear hK5 K5
   refine wp_ret ?_
   refine then_r ?_
   refine ret3 rfl (.tmp rfl (show _ = Value.slice _ _ _ from rfl)) (.cell rfl rfl (load_rowB (cs := [_, _, _, _, _, _, _]) hS.ok 0 rfl Try.underlying32 rfl ts_32 rfl)) (.tmp rfl (show _ = Value.int _ _ from rfl)) ?_
   right
   rw [fin1 (by omega)]
   exact ⟨by omega, rfl, hS.kp⟩

set_option maxRecDepth 100000 in
set_option maxHeartbeats 4000000 in
theorem runwrap6 {l x : List Nat} {pr ttl er : Nat} {s d : Ad} (hb : Bytes l) (hn4 : l.length ≤ 3000) (hl0 : l.length ≠ 0) (h6 : nth l 0 / 16 = 6) (hxb : Bytes x) (hx3 : x.length ≤ 3000) (hpr : pr < 256) (her : er < 100) (hp : H6 88 l x pr ttl er s d) : HU 19 l x pr ttl er s d := by
  intro w0 A c hv hc
  have hS := (St.sv w0).vcons rfl hv
  have hsb : sixE x ≤ 21 := by unfold sixE; split <;> (try split) <;> omega
  have hsl := fun w (hv : View w w.heap.size A (l.map u8v)) => rsix_c l.length A c l w hv rfl hb (by omega)
  simp only [(sx6 hl0 h6).2.2] at hsl
  have hfl := fun w => fault_z 6 0 w (.inr (.inr ⟨by omega, rfl⟩))
  have hsx := fun w L c' (hv : View w w.heap.size L (x.map u8v)) => rsix_c x.length L c' x w hv rfl hxb (by omega)
  have hfx := fault_c x
  have f3 := @fin3 er pr x
  have f4 := @fin4' er pr x
  have f5 := @fin5' er pr x
  obtain ⟨E, hE⟩ : ∃ E, sixE x = E := ⟨_, rfl⟩
  obtain ⟨Z, hZ⟩ : ∃ Z, sixN x = Z := ⟨_, rfl⟩
  rw [hE] at hsb f3 f4 f5
  rw [hZ] at f4 f5
  simp only [hE, hZ] at hsx hfx
  clear hE hZ
  refine ent (n := 99) Try.func19 rfl rfl ?_
  refine wp_seq_k ?_; intro K1 hK1
  refine wlit ?_
  refine wl_v (x_assign ev_c) ?_
  refine wl_e rfl ?_; intro K hK
  refine ow_alloc hS tz_32 rfl ?_
  clear hS; intro g0_1 w hg0_1 hS
  refine hK _ _ ?_; clear hK K
  refine wl_v (x_assign (ev_cN 0)) ?_
  refine wl_nil ?_
  refine then_n (hK1 _ _ ?_); clear hK1 K1
  refine wp_seq_k ?_; intro K2 hK2
  refine wlit ?_
  refine wl_v (x_move (tmS rfl rfl)) ?_
  refine wl_e rfl ?_; intro K hK
  refine ow_call Try.func21 rfl rfl (evs_cons (tmS rfl rfl) <| evs_nil) (hsl _ (viewV hS.ok 1 rfl)) ?_
  rintro e w ⟨rfl, hk⟩
  refine ⟨_, rfl, ?_⟩
  replace hS := hS.kept hk
  clear hk
  refine hK _ _ ?_; clear hK K
  refine wl_v (x_assign (tmI rfl rfl)) ?_
  refine wl_nil ?_
  refine then_n (hK2 _ _ ?_); clear hK2 K2
  refine wp_seq_k ?_; intro K3 hK3
  refine wp_seq_k ?_; intro K4 hK4
  refine wlit ?_
  refine wl_v (x_move (tmI rfl rfl)) ?_
  refine wl_e rfl ?_; intro K hK
  refine ow_call Try.func87 rfl rfl (evs_cons (tmI rfl rfl) <| evs_nil) (hfl _) ?_
  rintro e w ⟨rfl, hk⟩
  refine ⟨_, rfl, ?_⟩
  replace hS := hS.kept hk
  clear hk
  refine hK _ _ ?_; clear hK K
  refine wl_v (x_neq (tmI rfl rfl) (ev_cN 0)) ?_
  refine wl_nil ?_
  refine then_n (hK4 _ _ ?_); clear hK4 K4
  refine cnd (tm rfl) (fun hc0 => ?_) (fun hc0 => ?_)
  · exfalso
    simp at hc0
  try (exfalso; first | with_reducible exact absurd hc0 Bool.false_ne_true | with_reducible exact absurd hc0.symm Bool.false_ne_true | (simp only [nrm] at hc0; omega) | (simp at hc0; done))
  all_goals
   try simp only [nrm] at hc0
   refine wp_skip ?_
   refine then_n (hK3 _ _ ?_); clear hK3 K3
   refine wp_seq_k ?_; intro K5 hK5
   refine wlit ?_
   refine wl_v (x_assign ev_c) ?_
   refine wl_nil ?_
   refine then_n (hK5 _ _ ?_); clear hK5 K5
   refine wp_seq_k ?_; intro K6 hK6
   refine wlit ?_
   refine wl_v (x_assign (ev_cN 0)) ?_
   refine wl_nil ?_
   refine then_n (hK6 _ _ ?_); clear hK6 K6
   refine wp_seq_k ?_; intro K7 hK7
   refine wlit ?_
   refine wl_e rfl ?_; intro K hK
   refine ow_alloc hS tz_32 rfl ?_
   clear hS; intro g6_0 w hg6_0 hS
   refine hK _ _ ?_; clear hK K
   refine wl_nil ?_
   refine then_n (hK7 _ _ ?_); clear hK7 K7
   refine wp_seq_k ?_; intro K8 hK8
   refine wlit ?_
   refine wl_v (x_assign (ev_cN 0)) ?_
   refine wl_nil ?_
   refine then_n (hK8 _ _ ?_); clear hK8 K8
   refine wp_seq_k ?_; intro K9 hK9
   refine wp_seq_k ?_; intro K10 hK10
   refine wlit ?_
   refine wl_v (x_move (tmI rfl rfl)) ?_
   refine wl_v (x_eql (tmI rfl rfl) (ev_cN 6)) ?_
   refine wl_nil ?_
   refine then_n (hK10 _ _ ?_); clear hK10 K10
   refine cnds (tm rfl) (fun hc1 => ?_) (fun hc1 => ?_)
   · exfalso
     simp at hc1
   try (exfalso; first | with_reducible exact absurd hc1 Bool.false_ne_true | with_reducible exact absurd hc1.symm Bool.false_ne_true | (simp only [nrm] at hc1; omega) | (simp at hc1; done))
   all_goals
    try simp only [nrm] at hc1
    refine wp_seq_k ?_; intro K11 hK11
    refine wlit ?_
    refine wl_v (x_move (tmS rfl rfl)) ?_
    refine wl_e rfl ?_; intro K hK
    refine ow_call Try.func88 rfl rfl (evs_cons (tmS rfl rfl) <| evs_nil) (hp _ A c (viewV hS.ok 2 rfl) hc) ?_
    rintro e w ⟨cl, lb, len, L, k, c', rfl, _, rfl, hn, hk⟩
    refine ⟨_, rfl, ?_⟩
    have hfr := (hn.back hS.kp).2
    replace hS := hS.addn hk hn -- +vx
    clear hn hk
    refine hK _ _ ?_; clear hK K
    refine wl_v (x_move (tmT rfl rfl)) ?_
    refine wl_v (x_ext (tmT rfl rfl) rfl) ?_
    refine wl_v (x_ext (tmT rfl rfl) rfl) ?_
    refine wl_v (x_ext (tmT rfl rfl) rfl) ?_
    refine wl_e rfl ?_; intro K hK
    refine ow_alloc hS tz_143 rfl ?_
    clear hS; intro g9_6 w hg9_6 hS
    refine hK _ _ ?_; clear hK K
    refine wl_e rfl ?_; intro K hK
    refine ow_storeA hS 0 rfl ts_143 (tmP rfl rfl) (tmA rfl rfl) rfl rfl rfl ?_
    clear hS; intro w hS
    try replace hS := St.nm (M' := [.blk _ _ [_, _, _, _, _, _, _, _, _, _, _], .vw _ _, .blk _ _ [_, _, _, _, _, _, _], .blk _ _ [_, _, _, _, _, _, _], .vw _ _]) hS rfl
    refine hK _ _ ?_; clear hK K
    refine wl_v (x_assign (tmS rfl rfl)) ?_
    refine wl_v (x_assign (tmI rfl rfl)) ?_
    refine wl_nil ?_
    refine then_n (hK11 _ _ ?_); clear hK11 K11
    replace hS := hS.pick [2, 0, 1, 3, 4] rfl rfl
    try replace hS := St.nm (M' := [.blk _ _ [_, _, _, _, _, _, _], .blk _ _ [_, _, _, _, _, _, _, _, _, _, _], .vw _ _, .blk _ _ [_, _, _, _, _, _, _], .vw _ _]) hS rfl
    refine rg_startk 1 hS mixed_ ?_
    clear hS; intro w hS
    refine rg_take 0 rfl rfl (by kernel_rfl) (by kernel_rfl) (by kernel_rfl) (want_0) (fun w hok => x_move (tmS rfl rfl)) ?_
    refine rg_take 1 rfl rfl (by kernel_rfl) (by kernel_rfl) (by kernel_rfl) (want_0) (fun w hok => x_fa 3 Try.underlying143 rfl rfl ts_5 (tmP rfl rfl)) ?_
    first
     | refine rg_take 2 rfl rfl (by kernel_rfl) (by kernel_rfl) (by kernel_rfl) (want_0) (fun w hok => x_load Try.underlying5 rfl (tmP rfl rfl) (cellB hok 0 rfl rfl)) ?_
     | refine rg_take 2 rfl rfl (by kernel_rfl) (by kernel_rfl) (by kernel_rfl) (want_0) (fun w hok => x_load Try.underlying5 rfl (tmP rfl rfl) (cellB hok 0 rfl (getm (by omega)))) ?_
    refine rg_take 3 rfl rfl (by kernel_rfl) (by kernel_rfl) (by kernel_rfl) (want_0) (fun w hok => x_fa 5 Try.underlying143 rfl rfl ts_26 (tmP rfl rfl)) ?_
    refine rg_take 4 rfl rfl (by kernel_rfl) (by kernel_rfl) (by kernel_rfl) (want_0) (fun w hok => x_loadA (cs := [_, _, _]) Try.underlying26 rfl ts_26 (tmP rfl rfl) (rangeB hok 0 rfl rfl)) ?_
    refine rg_take 5 rfl rfl (by kernel_rfl) (by kernel_rfl) (by kernel_rfl) (want_0) (fun w hok => x_fa 8 Try.underlying143 rfl rfl ts_26 (tmP rfl rfl)) ?_
    refine rg_take 6 rfl rfl (by kernel_rfl) (by kernel_rfl) (by kernel_rfl) (want_0) (fun w hok => x_loadA (cs := [_, _, _]) Try.underlying26 rfl ts_26 (tmP rfl rfl) (rangeB hok 0 rfl rfl)) ?_
    refine rg_take 7 rfl rfl (by kernel_rfl) (by kernel_rfl) (by kernel_rfl) (want_0) (fun w hok => x_fa 4 Try.underlying143 rfl rfl ts_5 (tmP rfl rfl)) ?_
    first
     | refine rg_take 8 rfl rfl (by kernel_rfl) (by kernel_rfl) (by kernel_rfl) (want_0) (fun w hok => x_load Try.underlying5 rfl (tmP rfl rfl) (cellB hok 0 rfl rfl)) ?_
     | refine rg_take 8 rfl rfl (by kernel_rfl) (by kernel_rfl) (by kernel_rfl) (want_0) (fun w hok => x_load Try.underlying5 rfl (tmP rfl rfl) (cellB hok 0 rfl (getm (by omega)))) ?_
    refine rg_take 9 rfl rfl (by kernel_rfl) (by kernel_rfl) (by kernel_rfl) (want_0) (fun w hok => x_build (bc_takeL (tmA rfl rfl) <| bc_takeL (tmA rfl rfl) <| bc_take (tmI rfl rfl) <| bc_nil) (by kernel_rfl)) ?_
    refine rg_take 10 rfl rfl (by kernel_rfl) (by kernel_rfl) (by kernel_rfl) (want_0) (fun w hok => x_move (tmI rfl rfl)) ?_
    refine rg_take 11 rfl rfl (by kernel_rfl) (by kernel_rfl) (by kernel_rfl) (want_0) (fun w hok => x_assign (tmS rfl rfl)) ?_
    refine rg_take 12 rfl rfl (by kernel_rfl) (by kernel_rfl) (by kernel_rfl) (want_0) (fun w hok => x_assign (tmI rfl rfl)) ?_
    refine rg_step 13 rfl (by kernel_rfl) (want_0) (oks_drop hS 1 rfl) ?_; intro K hK
    refine ow_storeA hS 0 rfl ts_32 (tmP rfl rfl) (tmA rfl rfl) rfl rfl rfl ?_
    clear hS; intro w hS
    try replace hS := St.nm (M' := [.blk _ _ [_, _, _, _, _, _, _], .blk _ _ [_, _, _, _, _, _, _, _, _, _, _], .vw _ _, .blk _ _ [_, _, _, _, _, _, _], .vw _ _]) hS rfl
    refine hK _ _ ?_; clear hK K
    refine rg_take 14 rfl rfl (by kernel_rfl) (by kernel_rfl) (by kernel_rfl) (want_0) (fun w hok => x_assign (tmI rfl rfl)) ?_
    refine rg_done (oks_drop hS 1 rfl) (by kernel_rfl) ?_
    refine then_n (hK9 _ _ ?_); clear hK9 K9
    refine wp_seq_k ?_; intro K12 hK12
    refine wp_seq_k ?_; intro K13 hK13
    refine wlit ?_
    refine wl_v (x_move (tmI rfl rfl)) ?_
    refine wl_v (x_neq (tmI rfl rfl) (ev_cN 0)) ?_
    refine wl_nil ?_
    refine then_n (hK13 _ _ ?_); clear hK13 K13
    refine cnd (tm rfl) (fun hc3 => ?_) (fun hc3 => ?_)
    · try (exfalso; first | with_reducible exact absurd hc3 Bool.false_ne_true | with_reducible exact absurd hc3.symm Bool.false_ne_true | (simp only [nrm] at hc3; omega) | (simp at hc3; done))
      all_goals
       try simp only [nrm] at hc3
       refine wp_seq_k ?_; intro K14 hK14
       refine wlit ?_
       refine wl_v (x_build (bc_skipL [.bool false, .int .u64 0, .int .u64 0] <| bc_skipL [.bool false, .int .u64 0, .int .u64 0] <| bc_skip (.int .u8 0) <| bc_nil) (by kernel_rfl)) ?_
       refine wl_v (x_move (tmI rfl rfl)) ?_
       refine wl_v (x_assign ev_c) ?_
       refine wl_e rfl ?_; intro K hK
       refine ow_storeA hS 3 rfl ts_32 (tmP rfl rfl) (tmA rfl rfl) rfl rfl rfl ?_
       clear hS; intro w hS
       try replace hS := St.nm (M' := [.blk _ _ [_, _, _, _, _, _, _], .blk _ _ [_, _, _, _, _, _, _, _, _, _, _], .vw _ _, .blk _ _ [_, _, _, _, _, _, _], .vw _ _]) hS rfl
       refine hK _ _ ?_; clear hK K
       refine wl_v (x_assign (tmI rfl rfl)) ?_
       refine wl_nil ?_
       refine then_n (hK14 _ _ ?_); clear hK14 K14
       refine wp_ret ?_
       refine then_r ?_
       refine ret3 rfl (.tmp rfl (show _ = Value.slice _ _ _ from rfl)) (.cell rfl rfl (load_rowB (cs := [_, _, _, _, _, _, _]) hS.ok 3 rfl Try.underlying32 rfl ts_32 rfl)) (.tmp rfl (show _ = Value.int _ _ from rfl)) ?_
       first
         | (right; rw [fin1 (by omega)]; exact ⟨by omega, rfl, hS.kp⟩)
         | (right; rw [fin2 (by omega) (by omega) (by omega)]; exact ⟨by omega, rfl, hS.kp⟩)
         | (right; rw [f3 (by omega) (by omega) (by omega)]; exact ⟨by omega, rfl, hS.kp⟩)
         | (right; rw [f4 (by omega) (by omega) (by omega) hc6']; exact ⟨by omega, rfl, hS.kp⟩)
         | (left; exact ⟨L, _, c', f5 (by omega) (by omega) (by omega) hc6', rfl, .inl rfl, rfl, ⟨viewV hS.ok 2 rfl, hfr⟩, hS.kp⟩)
    try (exfalso; first | with_reducible exact absurd hc3 Bool.false_ne_true | with_reducible exact absurd hc3.symm Bool.false_ne_true | (simp only [nrm] at hc3; omega) | (simp at hc3; done))
    all_goals
     try simp only [nrm] at hc3
     refine wp_skip ?_
     refine then_n (hK12 _ _ ?_); clear hK12 K12
     refine wp_seq_k ?_; intro K16 hK16
     refine wp_seq_k ?_; intro K17 hK17
     refine wlit ?_
     refine wl_v (x_move (tmI rfl rfl)) ?_
     refine wl_v (x_neq (tmI rfl rfl) (ev_cN 4)) ?_
     refine wl_v (x_move (tmB rfl rfl)) ?_
     refine gs_wl (tm (t := 78) rfl) (fun hg17_2 => ?_) (fun hg17_2 => ?_)
     · have hg17_2' := hg17_2; (try simp only [nrm] at hg17_2'); try (exfalso; first | with_reducible exact absurd hg17_2 Bool.false_ne_true | with_reducible exact absurd hg17_2.symm Bool.false_ne_true | omega | (simp at hg17_2; done))
       all_goals
        refine wl_gv (want_y rfl rfl rfl rfl (by rw [hg17_2]; rfl)) (x_move (tmI rfl rfl)) ?_
        refine wl_gv (want_y rfl rfl rfl rfl (by rw [hg17_2]; rfl)) (x_neq (tmI rfl rfl) (ev_cN 41)) ?_
        refine wl_v (x_pickT (tmB rfl rfl) hg17_2 (tmB rfl rfl)) ?_
        refine wl_nil ?_
        refine then_n (hK17 _ _ ?_); clear hK17 K17
        refine cnd (tm rfl) (fun hc4 => ?_) (fun hc4 => ?_)
        · try (exfalso; first | with_reducible exact absurd hc4 Bool.false_ne_true | with_reducible exact absurd hc4.symm Bool.false_ne_true | (simp only [nrm] at hc4; omega) | (simp at hc4; done))
          all_goals
           try simp only [nrm] at hc4
           refine wp_seq_k ?_; intro K18 hK18
           refine wlit ?_
           refine wl_v (x_build (bc_skipL [.bool false, .int .u64 0, .int .u64 0] <| bc_skipL [.bool false, .int .u64 0, .int .u64 0] <| bc_skip (.int .u8 0) <| bc_nil) (by kernel_rfl)) ?_
           refine wl_v (x_assign ev_c) ?_
           refine wl_e rfl ?_; intro K hK
           refine ow_storeA hS 3 rfl ts_32 (tmP rfl rfl) (tmA rfl rfl) rfl rfl rfl ?_
           clear hS; intro w hS
           try replace hS := St.nm (M' := [.blk _ _ [_, _, _, _, _, _, _], .blk _ _ [_, _, _, _, _, _, _, _, _, _, _], .vw _ _, .blk _ _ [_, _, _, _, _, _, _], .vw _ _]) hS rfl
           refine hK _ _ ?_; clear hK K
           refine wl_v (x_assign (ev_cN 6)) ?_
           refine wl_nil ?_
           refine then_n (hK18 _ _ ?_); clear hK18 K18
           refine wp_ret ?_
           refine then_r ?_
           refine ret3 rfl (.tmp rfl (show _ = Value.slice _ _ _ from rfl)) (.cell rfl rfl (load_rowB (cs := [_, _, _, _, _, _, _]) hS.ok 3 rfl Try.underlying32 rfl ts_32 rfl)) (.tmp rfl (show _ = Value.int _ _ from rfl)) ?_
           first
             | (right; rw [fin1 (by omega)]; exact ⟨by omega, rfl, hS.kp⟩)
             | (right; rw [fin2 (by omega) (by omega) (by omega)]; exact ⟨by omega, rfl, hS.kp⟩)
             | (right; rw [f3 (by omega) (by omega) (by omega)]; exact ⟨by omega, rfl, hS.kp⟩)
             | (right; rw [f4 (by omega) (by omega) (by omega) hc6']; exact ⟨by omega, rfl, hS.kp⟩)
             | (left; exact ⟨L, _, c', f5 (by omega) (by omega) (by omega) hc6', rfl, .inl rfl, rfl, ⟨viewV hS.ok 2 rfl, hfr⟩, hS.kp⟩)
        try (exfalso; first | with_reducible exact absurd hc4 Bool.false_ne_true | with_reducible exact absurd hc4.symm Bool.false_ne_true | (simp only [nrm] at hc4; omega) | (simp at hc4; done))
        all_goals
         try simp only [nrm] at hc4
         refine wp_skip ?_
         refine then_n (hK16 _ _ ?_); clear hK16 K16
         refine wp_seq_k ?_; intro K20 hK20
         refine wlit ?_
         refine wl_v (x_move (tmS rfl rfl)) ?_
         refine wl_e rfl ?_; intro K hK
         refine ow_call Try.func21 rfl rfl (evs_cons (tmS rfl rfl) <| evs_nil) (hsx _ _ _ (viewV hS.ok 2 rfl)) ?_
         rintro e w ⟨rfl, hk⟩
         refine ⟨_, rfl, ?_⟩
         replace hS := hS.kept hk
         clear hk
         refine hK _ _ ?_; clear hK K
         refine wl_v (x_assign (tmI rfl rfl)) ?_
         refine wl_nil ?_
         refine then_n (hK20 _ _ ?_); clear hK20 K20
         refine wp_seq_k ?_; intro K21 hK21
         refine wp_seq_k ?_; intro K22 hK22
         refine wlit ?_
         refine wl_v (x_move (tmI rfl rfl)) ?_
         refine wl_e rfl ?_; intro K hK
         refine ow_call Try.func87 rfl rfl (evs_cons (tmI rfl rfl) <| evs_nil) (hfx _) ?_
         rintro e w ⟨rfl, hk⟩
         refine ⟨_, rfl, ?_⟩
         replace hS := hS.kept hk
         clear hk
         refine hK _ _ ?_; clear hK K
         refine wl_v (x_neq (tmI rfl rfl) (ev_cN 0)) ?_
         refine wl_nil ?_
         refine then_n (hK22 _ _ ?_); clear hK22 K22
         refine cnd (tm rfl) (fun hc5 => ?_) (fun hc5 => ?_)
         · try (exfalso; first | with_reducible exact absurd hc5 Bool.false_ne_true | with_reducible exact absurd hc5.symm Bool.false_ne_true | (simp only [nrm] at hc5; omega) | (simp at hc5; done))
           all_goals
            try simp only [nrm] at hc5
            refine wp_seq_k ?_; intro K23 hK23
            refine wlit ?_
            refine wl_v (x_build (bc_skipL [.bool false, .int .u64 0, .int .u64 0] <| bc_skipL [.bool false, .int .u64 0, .int .u64 0] <| bc_skip (.int .u8 0) <| bc_nil) (by kernel_rfl)) ?_
            refine wl_v (x_move (tmI rfl rfl)) ?_
            refine wl_e rfl ?_; intro K hK
            refine ow_call Try.func87 rfl rfl (evs_cons (tmI rfl rfl) <| evs_nil) (hfx _) ?_
            rintro e w ⟨rfl, hk⟩
            refine ⟨_, rfl, ?_⟩
            replace hS := hS.kept hk
            clear hk
            refine hK _ _ ?_; clear hK K
            refine wl_v (x_assign ev_c) ?_
            refine wl_e rfl ?_; intro K hK
            refine ow_storeA hS 3 rfl ts_32 (tmP rfl rfl) (tmA rfl rfl) rfl rfl rfl ?_
            clear hS; intro w hS
            try replace hS := St.nm (M' := [.blk _ _ [_, _, _, _, _, _, _], .blk _ _ [_, _, _, _, _, _, _, _, _, _, _], .vw _ _, .blk _ _ [_, _, _, _, _, _, _], .vw _ _]) hS rfl
            refine hK _ _ ?_; clear hK K
            refine wl_v (x_assign (tmI rfl rfl)) ?_
            refine wl_nil ?_
            refine then_n (hK23 _ _ ?_); clear hK23 K23
            refine wp_ret ?_
            refine then_r ?_
            refine ret3 rfl (.tmp rfl (show _ = Value.slice _ _ _ from rfl)) (.cell rfl rfl (load_rowB (cs := [_, _, _, _, _, _, _]) hS.ok 3 rfl Try.underlying32 rfl ts_32 rfl)) (.tmp rfl (show _ = Value.int _ _ from rfl)) ?_
            first
              | (right; rw [fin1 (by omega)]; exact ⟨by omega, rfl, hS.kp⟩)
              | (right; rw [fin2 (by omega) (by omega) (by omega)]; exact ⟨by omega, rfl, hS.kp⟩)
              | (right; rw [f3 (by omega) (by omega) (by omega)]; exact ⟨by omega, rfl, hS.kp⟩)
              | (right; rw [f4 (by omega) (by omega) (by omega) hc6']; exact ⟨by omega, rfl, hS.kp⟩)
              | (left; exact ⟨L, _, c', f5 (by omega) (by omega) (by omega) hc6', rfl, .inl rfl, rfl, ⟨viewV hS.ok 2 rfl, hfr⟩, hS.kp⟩)
         try (exfalso; first | with_reducible exact absurd hc5 Bool.false_ne_true | with_reducible exact absurd hc5.symm Bool.false_ne_true | (simp only [nrm] at hc5; omega) | (simp at hc5; done))
         all_goals
          try simp only [nrm] at hc5
          refine wp_skip ?_
          refine then_n (hK21 _ _ ?_); clear hK21 K21
          refine wp_seq_k ?_; intro K25 hK25
          refine wp_seq_k ?_; intro K26 hK26
          refine wlit ?_
          refine wl_v (x_move (tmI rfl rfl)) ?_
          refine wl_v (x_eql (tmI rfl rfl) (ev_cN 6)) ?_
          refine wl_v (x_move (tmI rfl rfl)) ?_
          refine wl_v (x_eql (tmI rfl rfl) (ev_cN 41)) ?_
          refine wl_v (x_bneq Try.underlying4 (tmB rfl rfl) (tmB rfl rfl)) ?_
          refine wl_nil ?_
          refine then_n (hK26 _ _ ?_); clear hK26 K26
          refine cnd (tm rfl) (fun hc6 => ?_) (fun hc6 => ?_)
          · try (exfalso; first | with_reducible exact absurd hc6 Bool.false_ne_true | with_reducible exact absurd hc6.symm Bool.false_ne_true | (simp only [nrm] at hc6; omega) | (simp at hc6; done))
            all_goals
             try simp only [nrm] at hc6
             have hc6' : (Z = 6 ∧ pr ≠ 41) ∨ (Z ≠ 6 ∧ pr = 41) := by
               by_cases q6 : Z = 6 <;> by_cases q41 : pr = 41 <;> first | exact .inl ⟨q6, q41⟩ | exact .inr ⟨q6, q41⟩ | (exfalso; simp [q6, q41] at hc6; try omega)
             refine wp_seq_k ?_; intro K27 hK27
             refine wlit ?_
             refine wl_v (x_build (bc_skipL [.bool false, .int .u64 0, .int .u64 0] <| bc_skipL [.bool false, .int .u64 0, .int .u64 0] <| bc_skip (.int .u8 0) <| bc_nil) (by kernel_rfl)) ?_
             refine wl_v (x_assign ev_c) ?_
             refine wl_e rfl ?_; intro K hK
             refine ow_storeA hS 3 rfl ts_32 (tmP rfl rfl) (tmA rfl rfl) rfl rfl rfl ?_
             clear hS; intro w hS
             try replace hS := St.nm (M' := [.blk _ _ [_, _, _, _, _, _, _], .blk _ _ [_, _, _, _, _, _, _, _, _, _, _], .vw _ _, .blk _ _ [_, _, _, _, _, _, _], .vw _ _]) hS rfl
             refine hK _ _ ?_; clear hK K
             refine wl_v (x_assign (ev_cN 21)) ?_
             refine wl_nil ?_
             refine then_n (hK27 _ _ ?_); clear hK27 K27
             refine wp_ret ?_
             refine then_r ?_
             refine ret3 rfl (.tmp rfl (show _ = Value.slice _ _ _ from rfl)) (.cell rfl rfl (load_rowB (cs := [_, _, _, _, _, _, _]) hS.ok 3 rfl Try.underlying32 rfl ts_32 rfl)) (.tmp rfl (show _ = Value.int _ _ from rfl)) ?_
             first
               | (right; rw [fin1 (by omega)]; exact ⟨by omega, rfl, hS.kp⟩)
               | (right; rw [fin2 (by omega) (by omega) (by omega)]; exact ⟨by omega, rfl, hS.kp⟩)
               | (right; rw [f3 (by omega) (by omega) (by omega)]; exact ⟨by omega, rfl, hS.kp⟩)
               | (right; rw [f4 (by omega) (by omega) (by omega) hc6']; exact ⟨by omega, rfl, hS.kp⟩)
               | (left; exact ⟨L, _, c', f5 (by omega) (by omega) (by omega) hc6', rfl, .inl rfl, rfl, ⟨viewV hS.ok 2 rfl, hfr⟩, hS.kp⟩)
          try (exfalso; first | with_reducible exact absurd hc6 Bool.false_ne_true | with_reducible exact absurd hc6.symm Bool.false_ne_true | (simp only [nrm] at hc6; omega) | (simp at hc6; done))
          all_goals
           try simp only [nrm] at hc6
           have hc6' : (Z = 6 ∧ pr = 41) ∨ (Z ≠ 6 ∧ pr ≠ 41) := by
             by_cases q6 : Z = 6 <;> by_cases q41 : pr = 41 <;> first | exact .inl ⟨q6, q41⟩ | exact .inr ⟨q6, q41⟩ | (exfalso; simp [q6, q41] at hc6; try omega)
           refine wp_skip ?_
           refine then_n (hK25 _ _ ?_); clear hK25 K25
           refine wp_seq_k ?_; intro K29 hK29
           replace hS := hS.pick [3, 0, 2, 4] rfl rfl
           try replace hS := St.nm (M' := [.blk _ _ [_, _, _, _, _, _, _], .blk _ _ [_, _, _, _, _, _, _], .vw _ _, .vw _ _]) hS rfl
           refine rg_startk 1 hS mixed_ ?_
           clear hS; intro w hS
           refine rg_take 0 rfl rfl (by kernel_rfl) (by kernel_rfl) (by kernel_rfl) (want_0) (fun w hok => x_move (tmS rfl rfl)) ?_
           refine rg_take 1 rfl rfl (by kernel_rfl) (by kernel_rfl) (by kernel_rfl) (want_0) (fun w hok => x_loadA (cs := [_, _, _, _, _, _, _]) Try.underlying32 rfl ts_32 (tmP rfl rfl) (rangeB hok 0 rfl rfl)) ?_
           refine rg_take 2 rfl rfl (by kernel_rfl) (by kernel_rfl) (by kernel_rfl) (want_0) (fun w hok => x_assign (tmS rfl rfl)) ?_
           refine rg_step 3 rfl (by kernel_rfl) (want_0) (oks_drop hS 1 rfl) ?_; intro K hK
           refine ow_storeA hS 0 rfl ts_32 (tmP rfl rfl) (tmA rfl rfl) rfl rfl rfl ?_
           clear hS; intro w hS
           try replace hS := St.nm (M' := [.blk _ _ [_, _, _, _, _, _, _], .blk _ _ [_, _, _, _, _, _, _], .vw _ _, .vw _ _]) hS rfl
           refine hK _ _ ?_; clear hK K
           refine rg_take 4 rfl rfl (by kernel_rfl) (by kernel_rfl) (by kernel_rfl) (want_0) (fun w hok => x_assign (ev_cN 0)) ?_
           refine rg_done (oks_drop hS 1 rfl) (by kernel_rfl) ?_
           refine then_n (hK29 _ _ ?_); clear hK29 K29
           refine wp_ret ?_
           refine ret3 rfl (.tmp rfl (show _ = Value.slice _ _ _ from rfl)) (.cell rfl rfl (load_rowB (cs := [_, _, _, _, _, _, _]) hS.ok 0 rfl Try.underlying32 rfl ts_32 rfl)) (.tmp rfl (show _ = Value.int _ _ from rfl)) ?_
           first
             | (right; rw [fin1 (by omega)]; exact ⟨by omega, rfl, hS.kp⟩)
             | (right; rw [fin2 (by omega) (by omega) (by omega)]; exact ⟨by omega, rfl, hS.kp⟩)
             | (right; rw [f3 (by omega) (by omega) (by omega)]; exact ⟨by omega, rfl, hS.kp⟩)
             | (right; rw [f4 (by omega) (by omega) (by omega) hc6']; exact ⟨by omega, rfl, hS.kp⟩)
             | (left; exact ⟨L, _, c', f5 (by omega) (by omega) (by omega) hc6', rfl, .inl rfl, rfl, ⟨viewV hS.ok 2 rfl, hfr⟩, hS.kp⟩)
     have hg17_2' := hg17_2; (try simp only [nrm] at hg17_2'); try (exfalso; first | with_reducible exact absurd hg17_2 Bool.false_ne_true | with_reducible exact absurd hg17_2.symm Bool.false_ne_true | omega | (simp at hg17_2; done))
     all_goals
      refine wl_s rfl (want_n rfl rfl rfl rfl (by rw [hg17_2]; rfl)) ?_
      refine wl_s rfl (want_n rfl rfl rfl rfl (by rw [hg17_2]; rfl)) ?_
      refine wl_v (x_pickF (tmB rfl rfl) hg17_2 ev_c) ?_
      refine wl_nil ?_
      refine then_n (hK17 _ _ ?_); clear hK17 K17
      refine cnd_f (tmB rfl rfl) rfl ?_
      refine wp_skip ?_
      refine then_n (hK16 _ _ ?_); clear hK16 K16
      refine wp_seq_k ?_; intro K31 hK31
      refine wlit ?_
      refine wl_v (x_move (tmS rfl rfl)) ?_
      refine wl_e rfl ?_; intro K hK
      refine ow_call Try.func21 rfl rfl (evs_cons (tmS rfl rfl) <| evs_nil) (hsx _ _ _ (viewV hS.ok 2 rfl)) ?_
      rintro e w ⟨rfl, hk⟩
      refine ⟨_, rfl, ?_⟩
      replace hS := hS.kept hk
      clear hk
      refine hK _ _ ?_; clear hK K
      refine wl_v (x_assign (tmI rfl rfl)) ?_
      refine wl_nil ?_
      refine then_n (hK31 _ _ ?_); clear hK31 K31
      refine wp_seq_k ?_; intro K32 hK32
      refine wp_seq_k ?_; intro K33 hK33
      refine wlit ?_
      refine wl_v (x_move (tmI rfl rfl)) ?_
      refine wl_e rfl ?_; intro K hK
      refine ow_call Try.func87 rfl rfl (evs_cons (tmI rfl rfl) <| evs_nil) (hfx _) ?_
      rintro e w ⟨rfl, hk⟩
      refine ⟨_, rfl, ?_⟩
      replace hS := hS.kept hk
      clear hk
      refine hK _ _ ?_; clear hK K
      refine wl_v (x_neq (tmI rfl rfl) (ev_cN 0)) ?_
      refine wl_nil ?_
      refine then_n (hK33 _ _ ?_); clear hK33 K33
      refine cnd (tm rfl) (fun hc5 => ?_) (fun hc5 => ?_)
      · try (exfalso; first | with_reducible exact absurd hc5 Bool.false_ne_true | with_reducible exact absurd hc5.symm Bool.false_ne_true | (simp only [nrm] at hc5; omega) | (simp at hc5; done))
        all_goals
         try simp only [nrm] at hc5
         refine wp_seq_k ?_; intro K34 hK34
         refine wlit ?_
         refine wl_v (x_build (bc_skipL [.bool false, .int .u64 0, .int .u64 0] <| bc_skipL [.bool false, .int .u64 0, .int .u64 0] <| bc_skip (.int .u8 0) <| bc_nil) (by kernel_rfl)) ?_
         refine wl_v (x_move (tmI rfl rfl)) ?_
         refine wl_e rfl ?_; intro K hK
         refine ow_call Try.func87 rfl rfl (evs_cons (tmI rfl rfl) <| evs_nil) (hfx _) ?_
         rintro e w ⟨rfl, hk⟩
         refine ⟨_, rfl, ?_⟩
         replace hS := hS.kept hk
         clear hk
         refine hK _ _ ?_; clear hK K
         refine wl_v (x_assign ev_c) ?_
         refine wl_e rfl ?_; intro K hK
         refine ow_storeA hS 3 rfl ts_32 (tmP rfl rfl) (tmA rfl rfl) rfl rfl rfl ?_
         clear hS; intro w hS
         try replace hS := St.nm (M' := [.blk _ _ [_, _, _, _, _, _, _], .blk _ _ [_, _, _, _, _, _, _, _, _, _, _], .vw _ _, .blk _ _ [_, _, _, _, _, _, _], .vw _ _]) hS rfl
         refine hK _ _ ?_; clear hK K
         refine wl_v (x_assign (tmI rfl rfl)) ?_
         refine wl_nil ?_
         refine then_n (hK34 _ _ ?_); clear hK34 K34
         refine wp_ret ?_
         refine then_r ?_
         refine ret3 rfl (.tmp rfl (show _ = Value.slice _ _ _ from rfl)) (.cell rfl rfl (load_rowB (cs := [_, _, _, _, _, _, _]) hS.ok 3 rfl Try.underlying32 rfl ts_32 rfl)) (.tmp rfl (show _ = Value.int _ _ from rfl)) ?_
         first
           | (right; rw [fin1 (by omega)]; exact ⟨by omega, rfl, hS.kp⟩)
           | (right; rw [fin2 (by omega) (by omega) (by omega)]; exact ⟨by omega, rfl, hS.kp⟩)
           | (right; rw [f3 (by omega) (by omega) (by omega)]; exact ⟨by omega, rfl, hS.kp⟩)
           | (right; rw [f4 (by omega) (by omega) (by omega) hc6']; exact ⟨by omega, rfl, hS.kp⟩)
           | (left; exact ⟨L, _, c', f5 (by omega) (by omega) (by omega) hc6', rfl, .inl rfl, rfl, ⟨viewV hS.ok 2 rfl, hfr⟩, hS.kp⟩)
      try (exfalso; first | with_reducible exact absurd hc5 Bool.false_ne_true | with_reducible exact absurd hc5.symm Bool.false_ne_true | (simp only [nrm] at hc5; omega) | (simp at hc5; done))
      all_goals
       try simp only [nrm] at hc5
       refine wp_skip ?_
       refine then_n (hK32 _ _ ?_); clear hK32 K32
       refine wp_seq_k ?_; intro K36 hK36
       refine wp_seq_k ?_; intro K37 hK37
       refine wlit ?_
       refine wl_v (x_move (tmI rfl rfl)) ?_
       refine wl_v (x_eql (tmI rfl rfl) (ev_cN 6)) ?_
       refine wl_v (x_move (tmI rfl rfl)) ?_
       refine wl_v (x_eql (tmI rfl rfl) (ev_cN 41)) ?_
       refine wl_v (x_bneq Try.underlying4 (tmB rfl rfl) (tmB rfl rfl)) ?_
       refine wl_nil ?_
       refine then_n (hK37 _ _ ?_); clear hK37 K37
       refine cnd (tm rfl) (fun hc6 => ?_) (fun hc6 => ?_)
       · try (exfalso; first | with_reducible exact absurd hc6 Bool.false_ne_true | with_reducible exact absurd hc6.symm Bool.false_ne_true | (simp only [nrm] at hc6; omega) | (simp at hc6; done))
         all_goals
          try simp only [nrm] at hc6
          have hc6' : (Z = 6 ∧ pr ≠ 41) ∨ (Z ≠ 6 ∧ pr = 41) := by
            by_cases q6 : Z = 6 <;> by_cases q41 : pr = 41 <;> first | exact .inl ⟨q6, q41⟩ | exact .inr ⟨q6, q41⟩ | (exfalso; simp [q6, q41] at hc6; try omega)
          refine wp_seq_k ?_; intro K38 hK38
          refine wlit ?_
          refine wl_v (x_build (bc_skipL [.bool false, .int .u64 0, .int .u64 0] <| bc_skipL [.bool false, .int .u64 0, .int .u64 0] <| bc_skip (.int .u8 0) <| bc_nil) (by kernel_rfl)) ?_
          refine wl_v (x_assign ev_c) ?_
          refine wl_e rfl ?_; intro K hK
          refine ow_storeA hS 3 rfl ts_32 (tmP rfl rfl) (tmA rfl rfl) rfl rfl rfl ?_
          clear hS; intro w hS
          try replace hS := St.nm (M' := [.blk _ _ [_, _, _, _, _, _, _], .blk _ _ [_, _, _, _, _, _, _, _, _, _, _], .vw _ _, .blk _ _ [_, _, _, _, _, _, _], .vw _ _]) hS rfl
          refine hK _ _ ?_; clear hK K
          refine wl_v (x_assign (ev_cN 21)) ?_
          refine wl_nil ?_
          refine then_n (hK38 _ _ ?_); clear hK38 K38
          refine wp_ret ?_
          refine then_r ?_
          refine ret3 rfl (.tmp rfl (show _ = Value.slice _ _ _ from rfl)) (.cell rfl rfl (load_rowB (cs := [_, _, _, _, _, _, _]) hS.ok 3 rfl Try.underlying32 rfl ts_32 rfl)) (.tmp rfl (show _ = Value.int _ _ from rfl)) ?_
          first
            | (right; rw [fin1 (by omega)]; exact ⟨by omega, rfl, hS.kp⟩)
            | (right; rw [fin2 (by omega) (by omega) (by omega)]; exact ⟨by omega, rfl, hS.kp⟩)
            | (right; rw [f3 (by omega) (by omega) (by omega)]; exact ⟨by omega, rfl, hS.kp⟩)
            | (right; rw [f4 (by omega) (by omega) (by omega) hc6']; exact ⟨by omega, rfl, hS.kp⟩)
            | (left; exact ⟨L, _, c', f5 (by omega) (by omega) (by omega) hc6', rfl, .inl rfl, rfl, ⟨viewV hS.ok 2 rfl, hfr⟩, hS.kp⟩)
       try (exfalso; first | with_reducible exact absurd hc6 Bool.false_ne_true | with_reducible exact absurd hc6.symm Bool.false_ne_true | (simp only [nrm] at hc6; omega) | (simp at hc6; done))
       all_goals
        try simp only [nrm] at hc6
        have hc6' : (Z = 6 ∧ pr = 41) ∨ (Z ≠ 6 ∧ pr ≠ 41) := by
          by_cases q6 : Z = 6 <;> by_cases q41 : pr = 41 <;> first | exact .inl ⟨q6, q41⟩ | exact .inr ⟨q6, q41⟩ | (exfalso; simp [q6, q41] at hc6; try omega)
        refine wp_skip ?_
        refine then_n (hK36 _ _ ?_); clear hK36 K36
        refine wp_seq_k ?_; intro K40 hK40
        replace hS := hS.pick [3, 0, 2, 4] rfl rfl
        try replace hS := St.nm (M' := [.blk _ _ [_, _, _, _, _, _, _], .blk _ _ [_, _, _, _, _, _, _], .vw _ _, .vw _ _]) hS rfl
        refine rg_startk 1 hS mixed_ ?_
        clear hS; intro w hS
        refine rg_take 0 rfl rfl (by kernel_rfl) (by kernel_rfl) (by kernel_rfl) (want_0) (fun w hok => x_move (tmS rfl rfl)) ?_
        refine rg_take 1 rfl rfl (by kernel_rfl) (by kernel_rfl) (by kernel_rfl) (want_0) (fun w hok => x_loadA (cs := [_, _, _, _, _, _, _]) Try.underlying32 rfl ts_32 (tmP rfl rfl) (rangeB hok 0 rfl rfl)) ?_
        refine rg_take 2 rfl rfl (by kernel_rfl) (by kernel_rfl) (by kernel_rfl) (want_0) (fun w hok => x_assign (tmS rfl rfl)) ?_
        refine rg_step 3 rfl (by kernel_rfl) (want_0) (oks_drop hS 1 rfl) ?_; intro K hK
        refine ow_storeA hS 0 rfl ts_32 (tmP rfl rfl) (tmA rfl rfl) rfl rfl rfl ?_
        clear hS; intro w hS
        try replace hS := St.nm (M' := [.blk _ _ [_, _, _, _, _, _, _], .blk _ _ [_, _, _, _, _, _, _], .vw _ _, .vw _ _]) hS rfl
        refine hK _ _ ?_; clear hK K
        refine rg_take 4 rfl rfl (by kernel_rfl) (by kernel_rfl) (by kernel_rfl) (want_0) (fun w hok => x_assign (ev_cN 0)) ?_
        refine rg_done (oks_drop hS 1 rfl) (by kernel_rfl) ?_
        refine then_n (hK40 _ _ ?_); clear hK40 K40
        refine wp_ret ?_
        refine ret3 rfl (.tmp rfl (show _ = Value.slice _ _ _ from rfl)) (.cell rfl rfl (load_rowB (cs := [_, _, _, _, _, _, _]) hS.ok 0 rfl Try.underlying32 rfl ts_32 rfl)) (.tmp rfl (show _ = Value.int _ _ from rfl)) ?_
        first
          | (right; rw [fin1 (by omega)]; exact ⟨by omega, rfl, hS.kp⟩)
          | (right; rw [fin2 (by omega) (by omega) (by omega)]; exact ⟨by omega, rfl, hS.kp⟩)
          | (right; rw [f3 (by omega) (by omega) (by omega)]; exact ⟨by omega, rfl, hS.kp⟩)
          | (right; rw [f4 (by omega) (by omega) (by omega) hc6']; exact ⟨by omega, rfl, hS.kp⟩)
          | (left; exact ⟨L, _, c', f5 (by omega) (by omega) (by omega) hc6', rfl, .inl rfl, rfl, ⟨viewV hS.ok 2 rfl, hfr⟩, hS.kp⟩)

set_option maxRecDepth 100000 in
set_option maxHeartbeats 4000000 in
theorem runwrap4 {l x : List Nat} {pr ttl er : Nat} {s d : Ad} {more : Bool} {off : Nat} (hb : Bytes l) (hn4 : l.length ≤ 3000) (hl0 : l.length ≠ 0) (h4 : nth l 0 / 16 = 4) (hxb : Bytes x) (hx3 : x.length ≤ 3000) (hpr : pr < 256) (her : er < 100) (hp : H4 89 l x pr ttl er s d more off) : HU 19 l x pr ttl (fragE er (more || decide (0 < (off : Int)))) s d := by
  intro w0 A c hv hc
  have hS := (St.sv w0).vcons rfl hv
  have hsb : sixE x ≤ 21 := by unfold sixE; split <;> (try split) <;> omega
  have hsl := fun w (hv : View w w.heap.size A (l.map u8v)) => rsix_c l.length A c l w hv rfl hb (by omega)
  simp only [(sx4 hl0 h4).2.2] at hsl
  have hfl := fun w => fault_z 4 0 w (.inr (.inr ⟨by omega, rfl⟩))
  have hsx := fun w L c' (hv : View w w.heap.size L (x.map u8v)) => rsix_c x.length L c' x w hv rfl hxb (by omega)
  have hfx := fault_c x
  obtain ⟨e9, he9⟩ : ∃ e9, fragE er (more || decide (0 < (off : Int))) = e9 := ⟨_, rfl⟩
  rw [he9]
  have q1 : er = 0 → more = true → e9 = 21 := fun a b => by rw [← he9]; exact if_pos ⟨a, by rw [b]; rfl⟩
  have q2 : er = 0 → 0 < off → e9 = 21 := fun a b => by rw [← he9]; exact if_pos ⟨a, by simp; omega⟩
  have q3 : er ≠ 0 → e9 = er := fun a => by rw [← he9]; exact if_neg fun h => a h.1
  have q4 : er = 0 → more = false → ¬ 0 < off → e9 = er := fun a b c => by rw [← he9]; exact if_neg fun h => by have h2 := h.2; rw [b] at h2; simp at h2; omega
  clear he9
  have f3 := @fin3 e9 pr x
  have f4 := @fin4' e9 pr x
  have f5 := @fin5' e9 pr x
  obtain ⟨E, hE⟩ : ∃ E, sixE x = E := ⟨_, rfl⟩
  obtain ⟨Z, hZ⟩ : ∃ Z, sixN x = Z := ⟨_, rfl⟩
  rw [hE] at hsb f3 f4 f5
  rw [hZ] at f4 f5
  simp only [hE, hZ] at hsx hfx
  clear hE hZ
  refine ent (n := 99) Try.func19 rfl rfl ?_
  refine wp_seq_k ?_; intro K1 hK1
  refine wlit ?_
  refine wl_v (x_assign ev_c) ?_
  refine wl_e rfl ?_; intro K hK
  refine ow_alloc hS tz_32 rfl ?_
  clear hS; intro g0_1 w hg0_1 hS
  refine hK _ _ ?_; clear hK K
  refine wl_v (x_assign (ev_cN 0)) ?_
  refine wl_nil ?_
  refine then_n (hK1 _ _ ?_); clear hK1 K1
  refine wp_seq_k ?_; intro K2 hK2
  refine wlit ?_
  refine wl_v (x_move (tmS rfl rfl)) ?_
  refine wl_e rfl ?_; intro K hK
  refine ow_call Try.func21 rfl rfl (evs_cons (tmS rfl rfl) <| evs_nil) (hsl _ (viewV hS.ok 1 rfl)) ?_
  rintro e w ⟨rfl, hk⟩
  refine ⟨_, rfl, ?_⟩
  replace hS := hS.kept hk
  clear hk
  refine hK _ _ ?_; clear hK K
  refine wl_v (x_assign (tmI rfl rfl)) ?_
  refine wl_nil ?_
  refine then_n (hK2 _ _ ?_); clear hK2 K2
  refine wp_seq_k ?_; intro K3 hK3
  refine wp_seq_k ?_; intro K4 hK4
  refine wlit ?_
  refine wl_v (x_move (tmI rfl rfl)) ?_
  refine wl_e rfl ?_; intro K hK
  refine ow_call Try.func87 rfl rfl (evs_cons (tmI rfl rfl) <| evs_nil) (hfl _) ?_
  rintro e w ⟨rfl, hk⟩
  refine ⟨_, rfl, ?_⟩
  replace hS := hS.kept hk
  clear hk
  refine hK _ _ ?_; clear hK K
  refine wl_v (x_neq (tmI rfl rfl) (ev_cN 0)) ?_
  refine wl_nil ?_
  refine then_n (hK4 _ _ ?_); clear hK4 K4
  refine cnd (tm rfl) (fun hc0 => ?_) (fun hc0 => ?_)
  · exfalso
    simp at hc0
  try (exfalso; first | with_reducible exact absurd hc0 Bool.false_ne_true | with_reducible exact absurd hc0.symm Bool.false_ne_true | (simp only [nrm] at hc0; omega) | (simp at hc0; done))
  all_goals
   try simp only [nrm] at hc0
   refine wp_skip ?_
   refine then_n (hK3 _ _ ?_); clear hK3 K3
   refine wp_seq_k ?_; intro K5 hK5
   refine wlit ?_
   refine wl_v (x_assign ev_c) ?_
   refine wl_nil ?_
   refine then_n (hK5 _ _ ?_); clear hK5 K5
   refine wp_seq_k ?_; intro K6 hK6
   refine wlit ?_
   refine wl_v (x_assign (ev_cN 0)) ?_
   refine wl_nil ?_
   refine then_n (hK6 _ _ ?_); clear hK6 K6
   refine wp_seq_k ?_; intro K7 hK7
   refine wlit ?_
   refine wl_e rfl ?_; intro K hK
   refine ow_alloc hS tz_32 rfl ?_
   clear hS; intro g6_0 w hg6_0 hS
   refine hK _ _ ?_; clear hK K
   refine wl_nil ?_
   refine then_n (hK7 _ _ ?_); clear hK7 K7
   refine wp_seq_k ?_; intro K8 hK8
   refine wlit ?_
   refine wl_v (x_assign (ev_cN 0)) ?_
   refine wl_nil ?_
   refine then_n (hK8 _ _ ?_); clear hK8 K8
   refine wp_seq_k ?_; intro K9 hK9
   refine wp_seq_k ?_; intro K10 hK10
   refine wlit ?_
   refine wl_v (x_move (tmI rfl rfl)) ?_
   refine wl_v (x_eql (tmI rfl rfl) (ev_cN 6)) ?_
   refine wl_nil ?_
   refine then_n (hK10 _ _ ?_); clear hK10 K10
   refine cnd (tm rfl) (fun hc1 => ?_) (fun hc1 => ?_)
   · exfalso
     simp at hc1
   try (exfalso; first | with_reducible exact absurd hc1 Bool.false_ne_true | with_reducible exact absurd hc1.symm Bool.false_ne_true | (simp only [nrm] at hc1; omega) | (simp at hc1; done))
   all_goals
    try simp only [nrm] at hc1
    refine wp_seq_k ?_; intro K11 hK11
    refine wlit ?_
    refine wl_v (x_move (tmS rfl rfl)) ?_
    refine wl_e rfl ?_; intro K hK
    refine ow_call Try.func89 rfl rfl (evs_cons (tmS rfl rfl) <| evs_nil) (hp _ A c (viewV hS.ok 2 rfl) hc) ?_
    rintro e w ⟨tos, len, id_, stay, sum, O, m, co, L, k, c', rfl, _, hm, rfl, hn, hk⟩
    refine ⟨_, rfl, ?_⟩
    have hfr := (hn.back hS.kp).2
    replace hS := hS.addn hk hn -- +vx
    clear hn hk
    refine hK _ _ ?_; clear hK K
    refine wl_v (x_move (tmT rfl rfl)) ?_
    refine wl_v (x_ext (tmT rfl rfl) rfl) ?_
    refine wl_v (x_ext (tmT rfl rfl) rfl) ?_
    refine wl_v (x_ext (tmT rfl rfl) rfl) ?_
    refine wl_e rfl ?_; intro K hK
    refine ow_alloc hS tz_42 rfl ?_
    clear hS; intro g11_6 w hg11_6 hS
    refine hK _ _ ?_; clear hK K
    refine wl_e rfl ?_; intro K hK
    refine ow_storeA hS 0 rfl ts_42 (tmP rfl rfl) (tmA rfl rfl) rfl rfl rfl ?_
    clear hS; intro w hS
    try replace hS := St.nm (M' := [.blk _ _ [_, _, _, _, _, _, _, _, _, _, _, _, _, _, _, _], .vw _ _, .blk _ _ [_, _, _, _, _, _, _], .blk _ _ [_, _, _, _, _, _, _], .vw _ _]) hS rfl
    refine hK _ _ ?_; clear hK K
    refine wl_v (x_assign (tmS rfl rfl)) ?_
    refine wl_v (x_assign (tmI rfl rfl)) ?_
    refine wl_nil ?_
    refine then_n (hK11 _ _ ?_); clear hK11 K11
    refine wp_seq_k ?_; intro K12 hK12
    replace hS := hS.pick [2, 0, 1, 3, 4] rfl rfl
    try replace hS := St.nm (M' := [.blk _ _ [_, _, _, _, _, _, _], .blk _ _ [_, _, _, _, _, _, _, _, _, _, _, _, _, _, _, _], .vw _ _, .blk _ _ [_, _, _, _, _, _, _], .vw _ _]) hS rfl
    refine rg_startk 1 hS mixed_ ?_
    clear hS; intro w hS
    refine rg_take 0 rfl rfl (by kernel_rfl) (by kernel_rfl) (by kernel_rfl) (want_0) (fun w hok => x_move (tmS rfl rfl)) ?_
    refine rg_take 1 rfl rfl (by kernel_rfl) (by kernel_rfl) (by kernel_rfl) (want_0) (fun w hok => x_fa 7 Try.underlying42 rfl rfl ts_5 (tmP rfl rfl)) ?_
    first
     | refine rg_take 2 rfl rfl (by kernel_rfl) (by kernel_rfl) (by kernel_rfl) (want_0) (fun w hok => x_load Try.underlying5 rfl (tmP rfl rfl) (cellB hok 0 rfl rfl)) ?_
     | refine rg_take 2 rfl rfl (by kernel_rfl) (by kernel_rfl) (by kernel_rfl) (want_0) (fun w hok => x_load Try.underlying5 rfl (tmP rfl rfl) (cellB hok 0 rfl (getm (by omega)))) ?_
    refine rg_take 3 rfl rfl (by kernel_rfl) (by kernel_rfl) (by kernel_rfl) (want_0) (fun w hok => x_fa 9 Try.underlying42 rfl rfl ts_26 (tmP rfl rfl)) ?_
    refine rg_take 4 rfl rfl (by kernel_rfl) (by kernel_rfl) (by kernel_rfl) (want_0) (fun w hok => x_loadA (cs := [_, _, _]) Try.underlying26 rfl ts_26 (tmP rfl rfl) (rangeB hok 0 rfl rfl)) ?_
    refine rg_take 5 rfl rfl (by kernel_rfl) (by kernel_rfl) (by kernel_rfl) (want_0) (fun w hok => x_fa 12 Try.underlying42 rfl rfl ts_26 (tmP rfl rfl)) ?_
    refine rg_take 6 rfl rfl (by kernel_rfl) (by kernel_rfl) (by kernel_rfl) (want_0) (fun w hok => x_loadA (cs := [_, _, _]) Try.underlying26 rfl ts_26 (tmP rfl rfl) (rangeB hok 0 rfl rfl)) ?_
    refine rg_take 7 rfl rfl (by kernel_rfl) (by kernel_rfl) (by kernel_rfl) (want_0) (fun w hok => x_fa 6 Try.underlying42 rfl rfl ts_5 (tmP rfl rfl)) ?_
    first
     | refine rg_take 8 rfl rfl (by kernel_rfl) (by kernel_rfl) (by kernel_rfl) (want_0) (fun w hok => x_load Try.underlying5 rfl (tmP rfl rfl) (cellB hok 0 rfl rfl)) ?_
     | refine rg_take 8 rfl rfl (by kernel_rfl) (by kernel_rfl) (by kernel_rfl) (want_0) (fun w hok => x_load Try.underlying5 rfl (tmP rfl rfl) (cellB hok 0 rfl (getm (by omega)))) ?_
    refine rg_take 9 rfl rfl (by kernel_rfl) (by kernel_rfl) (by kernel_rfl) (want_0) (fun w hok => x_build (bc_takeL (tmA rfl rfl) <| bc_takeL (tmA rfl rfl) <| bc_take (tmI rfl rfl) <| bc_nil) (by kernel_rfl)) ?_
    refine rg_take 10 rfl rfl (by kernel_rfl) (by kernel_rfl) (by kernel_rfl) (want_0) (fun w hok => x_move (tmI rfl rfl)) ?_
    refine rg_take 11 rfl rfl (by kernel_rfl) (by kernel_rfl) (by kernel_rfl) (want_0) (fun w hok => x_assign (tmS rfl rfl)) ?_
    refine rg_take 12 rfl rfl (by kernel_rfl) (by kernel_rfl) (by kernel_rfl) (want_0) (fun w hok => x_assign (tmI rfl rfl)) ?_
    refine rg_step 13 rfl (by kernel_rfl) (want_0) (oks_drop hS 1 rfl) ?_; intro K hK
    refine ow_storeA hS 0 rfl ts_32 (tmP rfl rfl) (tmA rfl rfl) rfl rfl rfl ?_
    clear hS; intro w hS
    try replace hS := St.nm (M' := [.blk _ _ [_, _, _, _, _, _, _], .blk _ _ [_, _, _, _, _, _, _, _, _, _, _, _, _, _, _, _], .vw _ _, .blk _ _ [_, _, _, _, _, _, _], .vw _ _]) hS rfl
    refine hK _ _ ?_; clear hK K
    refine rg_take 14 rfl rfl (by kernel_rfl) (by kernel_rfl) (by kernel_rfl) (want_0) (fun w hok => x_assign (tmI rfl rfl)) ?_
    refine rg_done (oks_drop hS 1 rfl) (by kernel_rfl) ?_
    refine then_n (hK12 _ _ ?_); clear hK12 K12
    refine wp_seq_k ?_; intro K13 hK13
    refine wlit ?_
    refine wl_v (x_move (tmI rfl rfl)) ?_
    refine wl_v (x_eql (tmI rfl rfl) (ev_cN 0)) ?_
    refine wl_v (x_move (tmB rfl rfl)) ?_
    refine gs_wl (tm (t := 63) rfl) (fun hg13_2 => ?_) (fun hg13_2 => ?_)
    · have hg13_2' := hg13_2; (try simp only [nrm] at hg13_2'); try (exfalso; first | with_reducible exact absurd hg13_2 Bool.false_ne_true | with_reducible exact absurd hg13_2.symm Bool.false_ne_true | omega | (simp at hg13_2; done))
      all_goals
       refine wl_gv (want_y rfl rfl rfl rfl (by rw [hg13_2]; rfl)) (x_fa 4 Try.underlying42 rfl rfl ts_4 (tmP rfl rfl)) ?_
       first
        | refine wl_gv (want_y rfl rfl rfl rfl (by rw [hg13_2]; rfl)) (x_load Try.underlying4 rfl (tmP rfl rfl) (cellB hS.ok 1 rfl rfl)) ?_
        | refine wl_gv (want_y rfl rfl rfl rfl (by rw [hg13_2]; rfl)) (x_load Try.underlying4 rfl (tmP rfl rfl) (cellB hS.ok 1 rfl (getm (by omega)))) ?_
       refine wl_gv (want_y rfl rfl rfl rfl (by rw [hg13_2]; rfl)) (x_move (tmB rfl rfl)) ?_
       refine gs_wl (tm (t := 66) rfl) (fun hg13_5 => ?_) (fun hg13_5 => ?_)
       · have hg13_5' := hg13_5; (try simp only [nrm] at hg13_5'); try (exfalso; first | with_reducible exact absurd hg13_5 Bool.false_ne_true | with_reducible exact absurd hg13_5.symm Bool.false_ne_true | omega | (simp at hg13_5; done))
         all_goals
          refine wl_s rfl (want_n rfl rfl rfl rfl (by rw [hg13_5]; rfl)) ?_
          refine wl_s rfl (want_n rfl rfl rfl rfl (by rw [hg13_5]; rfl)) ?_
          refine wl_s rfl (want_n rfl rfl rfl rfl (by rw [hg13_5]; rfl)) ?_
          refine wl_gv (want_y rfl rfl rfl rfl (by rw [hg13_2]; rfl)) (x_pickT (tmB rfl rfl) hg13_5 ev_c) ?_
          refine wl_v (x_pickT (tmB rfl rfl) hg13_2 (tmB rfl rfl)) ?_
          refine wl_nil ?_
          refine then_n (hK13 _ _ ?_); clear hK13 K13
          refine cnd_t (tmB rfl rfl) rfl ?_
          refine wlit ?_
          refine wl_v (x_assign (ev_cN 21)) ?_
          refine wl_nil ?_
          refine then_n (hK9 _ _ ?_); clear hK9 K9
          refine wp_seq_k ?_; intro K14 hK14
          refine wp_seq_k ?_; intro K15 hK15
          first
            | have hq : e9 = 21 := q1 (by omega) hg13_5
            | have hq : e9 = 21 := q2 (by omega) (by omega)
            | have hq : e9 = er := q3 (by omega)
            | have hq : e9 = er := q4 (by omega) hg13_5 (by omega)
          refine wlit ?_
          refine wl_v (x_move (tmI rfl rfl)) ?_
          refine wl_v (x_neq (tmI rfl rfl) (ev_cN 0)) ?_
          refine wl_nil ?_
          refine then_n (hK15 _ _ ?_); clear hK15 K15
          refine cnd (tm rfl) (fun hc3 => ?_) (fun hc3 => ?_)
          · try (exfalso; first | with_reducible exact absurd hc3 Bool.false_ne_true | with_reducible exact absurd hc3.symm Bool.false_ne_true | (simp only [nrm] at hc3; omega) | (simp at hc3; done))
            all_goals
             try simp only [nrm] at hc3
             refine wp_seq_k ?_; intro K16 hK16
             refine wlit ?_
             refine wl_v (x_build (bc_skipL [.bool false, .int .u64 0, .int .u64 0] <| bc_skipL [.bool false, .int .u64 0, .int .u64 0] <| bc_skip (.int .u8 0) <| bc_nil) (by kernel_rfl)) ?_
             refine wl_v (x_move (tmI rfl rfl)) ?_
             refine wl_v (x_assign ev_c) ?_
             refine wl_e rfl ?_; intro K hK
             refine ow_storeA hS 3 rfl ts_32 (tmP rfl rfl) (tmA rfl rfl) rfl rfl rfl ?_
             clear hS; intro w hS
             try replace hS := St.nm (M' := [.blk _ _ [_, _, _, _, _, _, _], .blk _ _ [_, _, _, _, _, _, _, _, _, _, _, _, _, _, _, _], .vw _ _, .blk _ _ [_, _, _, _, _, _, _], .vw _ _]) hS rfl
             refine hK _ _ ?_; clear hK K
             refine wl_v (x_assign (tmI rfl rfl)) ?_
             refine wl_nil ?_
             refine then_n (hK16 _ _ ?_); clear hK16 K16
             refine wp_ret ?_
             refine then_r ?_
             refine ret3 rfl (.tmp rfl (show _ = Value.slice _ _ _ from rfl)) (.cell rfl rfl (load_rowB (cs := [_, _, _, _, _, _, _]) hS.ok 3 rfl Try.underlying32 rfl ts_32 rfl)) (.tmp rfl (show _ = Value.int _ _ from rfl)) ?_
             first
               | (right; rw [fin1 (by omega)]; exact ⟨by omega, (by subst hq; rfl), hS.kp⟩)
               | (right; rw [fin2 (by omega) (by omega) (by omega)]; exact ⟨by omega, rfl, hS.kp⟩)
               | (right; rw [f3 (by omega) (by omega) (by omega)]; exact ⟨by omega, rfl, hS.kp⟩)
               | (right; rw [f4 (by omega) (by omega) (by omega) hc6']; exact ⟨by omega, rfl, hS.kp⟩)
               | (left; exact ⟨L, _, c', f5 (by omega) (by omega) (by omega) hc6', rfl, .inl rfl, rfl, ⟨viewV hS.ok 2 rfl, hfr⟩, hS.kp⟩)
          try (exfalso; first | with_reducible exact absurd hc3 Bool.false_ne_true | with_reducible exact absurd hc3.symm Bool.false_ne_true | (simp only [nrm] at hc3; omega) | (simp at hc3; done))
          all_goals
           try simp only [nrm] at hc3
           refine wp_skip ?_
           refine then_n (hK14 _ _ ?_); clear hK14 K14
           refine wp_seq_k ?_; intro K18 hK18
           refine wp_seq_k ?_; intro K19 hK19
           refine wlit ?_
           refine wl_v (x_move (tmI rfl rfl)) ?_
           refine wl_v (x_neq (tmI rfl rfl) (ev_cN 4)) ?_
           refine wl_v (x_move (tmB rfl rfl)) ?_
           refine gs_wl (tm (t := 78) rfl) (fun hg17_2 => ?_) (fun hg17_2 => ?_)
           · have hg17_2' := hg17_2; (try simp only [nrm] at hg17_2'); try (exfalso; first | with_reducible exact absurd hg17_2 Bool.false_ne_true | with_reducible exact absurd hg17_2.symm Bool.false_ne_true | omega | (simp at hg17_2; done))
             all_goals
              refine wl_gv (want_y rfl rfl rfl rfl (by rw [hg17_2]; rfl)) (x_move (tmI rfl rfl)) ?_
              refine wl_gv (want_y rfl rfl rfl rfl (by rw [hg17_2]; rfl)) (x_neq (tmI rfl rfl) (ev_cN 41)) ?_
              refine wl_v (x_pickT (tmB rfl rfl) hg17_2 (tmB rfl rfl)) ?_
              refine wl_nil ?_
              refine then_n (hK19 _ _ ?_); clear hK19 K19
              refine cnd (tm rfl) (fun hc4 => ?_) (fun hc4 => ?_)
              · try (exfalso; first | with_reducible exact absurd hc4 Bool.false_ne_true | with_reducible exact absurd hc4.symm Bool.false_ne_true | (simp only [nrm] at hc4; omega) | (simp at hc4; done))
                all_goals
                 try simp only [nrm] at hc4
                 refine wp_seq_k ?_; intro K20 hK20
                 refine wlit ?_
                 refine wl_v (x_build (bc_skipL [.bool false, .int .u64 0, .int .u64 0] <| bc_skipL [.bool false, .int .u64 0, .int .u64 0] <| bc_skip (.int .u8 0) <| bc_nil) (by kernel_rfl)) ?_
                 refine wl_v (x_assign ev_c) ?_
                 refine wl_e rfl ?_; intro K hK
                 refine ow_storeA hS 3 rfl ts_32 (tmP rfl rfl) (tmA rfl rfl) rfl rfl rfl ?_
                 clear hS; intro w hS
                 try replace hS := St.nm (M' := [.blk _ _ [_, _, _, _, _, _, _], .blk _ _ [_, _, _, _, _, _, _, _, _, _, _, _, _, _, _, _], .vw _ _, .blk _ _ [_, _, _, _, _, _, _], .vw _ _]) hS rfl
                 refine hK _ _ ?_; clear hK K
                 refine wl_v (x_assign (ev_cN 6)) ?_
                 refine wl_nil ?_
                 refine then_n (hK20 _ _ ?_); clear hK20 K20
                 refine wp_ret ?_
                 refine then_r ?_
                 refine ret3 rfl (.tmp rfl (show _ = Value.slice _ _ _ from rfl)) (.cell rfl rfl (load_rowB (cs := [_, _, _, _, _, _, _]) hS.ok 3 rfl Try.underlying32 rfl ts_32 rfl)) (.tmp rfl (show _ = Value.int _ _ from rfl)) ?_
                 first
                   | (right; rw [fin1 (by omega)]; exact ⟨by omega, (by subst hq; rfl), hS.kp⟩)
                   | (right; rw [fin2 (by omega) (by omega) (by omega)]; exact ⟨by omega, rfl, hS.kp⟩)
                   | (right; rw [f3 (by omega) (by omega) (by omega)]; exact ⟨by omega, rfl, hS.kp⟩)
                   | (right; rw [f4 (by omega) (by omega) (by omega) hc6']; exact ⟨by omega, rfl, hS.kp⟩)
                   | (left; exact ⟨L, _, c', f5 (by omega) (by omega) (by omega) hc6', rfl, .inl rfl, rfl, ⟨viewV hS.ok 2 rfl, hfr⟩, hS.kp⟩)
              try (exfalso; first | with_reducible exact absurd hc4 Bool.false_ne_true | with_reducible exact absurd hc4.symm Bool.false_ne_true | (simp only [nrm] at hc4; omega) | (simp at hc4; done))
              all_goals
               try simp only [nrm] at hc4
               refine wp_skip ?_
               refine then_n (hK18 _ _ ?_); clear hK18 K18
               refine wp_seq_k ?_; intro K22 hK22
               refine wlit ?_
               refine wl_v (x_move (tmS rfl rfl)) ?_
               refine wl_e rfl ?_; intro K hK
               refine ow_call Try.func21 rfl rfl (evs_cons (tmS rfl rfl) <| evs_nil) (hsx _ _ _ (viewV hS.ok 2 rfl)) ?_
               rintro e w ⟨rfl, hk⟩
               refine ⟨_, rfl, ?_⟩
               replace hS := hS.kept hk
               clear hk
               refine hK _ _ ?_; clear hK K
               refine wl_v (x_assign (tmI rfl rfl)) ?_
               refine wl_nil ?_
               refine then_n (hK22 _ _ ?_); clear hK22 K22
               refine wp_seq_k ?_; intro K23 hK23
               refine wp_seq_k ?_; intro K24 hK24
               refine wlit ?_
               refine wl_v (x_move (tmI rfl rfl)) ?_
               refine wl_e rfl ?_; intro K hK
               refine ow_call Try.func87 rfl rfl (evs_cons (tmI rfl rfl) <| evs_nil) (hfx _) ?_
               rintro e w ⟨rfl, hk⟩
               refine ⟨_, rfl, ?_⟩
               replace hS := hS.kept hk
               clear hk
               refine hK _ _ ?_; clear hK K
               refine wl_v (x_neq (tmI rfl rfl) (ev_cN 0)) ?_
               refine wl_nil ?_
               refine then_n (hK24 _ _ ?_); clear hK24 K24
               refine cnd (tm rfl) (fun hc5 => ?_) (fun hc5 => ?_)
               · try (exfalso; first | with_reducible exact absurd hc5 Bool.false_ne_true | with_reducible exact absurd hc5.symm Bool.false_ne_true | (simp only [nrm] at hc5; omega) | (simp at hc5; done))
                 all_goals
                  try simp only [nrm] at hc5
                  refine wp_seq_k ?_; intro K25 hK25
                  refine wlit ?_
                  refine wl_v (x_build (bc_skipL [.bool false, .int .u64 0, .int .u64 0] <| bc_skipL [.bool false, .int .u64 0, .int .u64 0] <| bc_skip (.int .u8 0) <| bc_nil) (by kernel_rfl)) ?_
                  refine wl_v (x_move (tmI rfl rfl)) ?_
                  refine wl_e rfl ?_; intro K hK
                  refine ow_call Try.func87 rfl rfl (evs_cons (tmI rfl rfl) <| evs_nil) (hfx _) ?_
                  rintro e w ⟨rfl, hk⟩
                  refine ⟨_, rfl, ?_⟩
                  replace hS := hS.kept hk
                  clear hk
                  refine hK _ _ ?_; clear hK K
                  refine wl_v (x_assign ev_c) ?_
                  refine wl_e rfl ?_; intro K hK
                  refine ow_storeA hS 3 rfl ts_32 (tmP rfl rfl) (tmA rfl rfl) rfl rfl rfl ?_
                  clear hS; intro w hS
                  try replace hS := St.nm (M' := [.blk _ _ [_, _, _, _, _, _, _], .blk _ _ [_, _, _, _, _, _, _, _, _, _, _, _, _, _, _, _], .vw _ _, .blk _ _ [_, _, _, _, _, _, _], .vw _ _]) hS rfl
                  refine hK _ _ ?_; clear hK K
                  refine wl_v (x_assign (tmI rfl rfl)) ?_
                  refine wl_nil ?_
                  refine then_n (hK25 _ _ ?_); clear hK25 K25
                  refine wp_ret ?_
                  refine then_r ?_
                  refine ret3 rfl (.tmp rfl (show _ = Value.slice _ _ _ from rfl)) (.cell rfl rfl (load_rowB (cs := [_, _, _, _, _, _, _]) hS.ok 3 rfl Try.underlying32 rfl ts_32 rfl)) (.tmp rfl (show _ = Value.int _ _ from rfl)) ?_
                  first
                    | (right; rw [fin1 (by omega)]; exact ⟨by omega, (by subst hq; rfl), hS.kp⟩)
                    | (right; rw [fin2 (by omega) (by omega) (by omega)]; exact ⟨by omega, rfl, hS.kp⟩)
                    | (right; rw [f3 (by omega) (by omega) (by omega)]; exact ⟨by omega, rfl, hS.kp⟩)
                    | (right; rw [f4 (by omega) (by omega) (by omega) hc6']; exact ⟨by omega, rfl, hS.kp⟩)
                    | (left; exact ⟨L, _, c', f5 (by omega) (by omega) (by omega) hc6', rfl, .inl rfl, rfl, ⟨viewV hS.ok 2 rfl, hfr⟩, hS.kp⟩)
               try (exfalso; first | with_reducible exact absurd hc5 Bool.false_ne_true | with_reducible exact absurd hc5.symm Bool.false_ne_true | (simp only [nrm] at hc5; omega) | (simp at hc5; done))
               all_goals
                try simp only [nrm] at hc5
                refine wp_skip ?_
                refine then_n (hK23 _ _ ?_); clear hK23 K23
                refine wp_seq_k ?_; intro K27 hK27
                refine wp_seq_k ?_; intro K28 hK28
                refine wlit ?_
                refine wl_v (x_move (tmI rfl rfl)) ?_
                refine wl_v (x_eql (tmI rfl rfl) (ev_cN 6)) ?_
                refine wl_v (x_move (tmI rfl rfl)) ?_
                refine wl_v (x_eql (tmI rfl rfl) (ev_cN 41)) ?_
                refine wl_v (x_bneq Try.underlying4 (tmB rfl rfl) (tmB rfl rfl)) ?_
                refine wl_nil ?_
                refine then_n (hK28 _ _ ?_); clear hK28 K28
                refine cnd (tm rfl) (fun hc6 => ?_) (fun hc6 => ?_)
                · try (exfalso; first | with_reducible exact absurd hc6 Bool.false_ne_true | with_reducible exact absurd hc6.symm Bool.false_ne_true | (simp only [nrm] at hc6; omega) | (simp at hc6; done))
                  all_goals
                   try simp only [nrm] at hc6
                   have hc6' : (Z = 6 ∧ pr ≠ 41) ∨ (Z ≠ 6 ∧ pr = 41) := by
                     by_cases q6 : Z = 6 <;> by_cases q41 : pr = 41 <;> first | exact .inl ⟨q6, q41⟩ | exact .inr ⟨q6, q41⟩ | (exfalso; simp [q6, q41] at hc6; try omega)
                   refine wp_seq_k ?_; intro K29 hK29
                   refine wlit ?_
                   refine wl_v (x_build (bc_skipL [.bool false, .int .u64 0, .int .u64 0] <| bc_skipL [.bool false, .int .u64 0, .int .u64 0] <| bc_skip (.int .u8 0) <| bc_nil) (by kernel_rfl)) ?_
                   refine wl_v (x_assign ev_c) ?_
                   refine wl_e rfl ?_; intro K hK
                   refine ow_storeA hS 3 rfl ts_32 (tmP rfl rfl) (tmA rfl rfl) rfl rfl rfl ?_
                   clear hS; intro w hS
                   try replace hS := St.nm (M' := [.blk _ _ [_, _, _, _, _, _, _], .blk _ _ [_, _, _, _, _, _, _, _, _, _, _, _, _, _, _, _], .vw _ _, .blk _ _ [_, _, _, _, _, _, _], .vw _ _]) hS rfl
                   refine hK _ _ ?_; clear hK K
                   refine wl_v (x_assign (ev_cN 21)) ?_
                   refine wl_nil ?_
                   refine then_n (hK29 _ _ ?_); clear hK29 K29
                   refine wp_ret ?_
                   refine then_r ?_
                   refine ret3 rfl (.tmp rfl (show _ = Value.slice _ _ _ from rfl)) (.cell rfl rfl (load_rowB (cs := [_, _, _, _, _, _, _]) hS.ok 3 rfl Try.underlying32 rfl ts_32 rfl)) (.tmp rfl (show _ = Value.int _ _ from rfl)) ?_
                   first
                     | (right; rw [fin1 (by omega)]; exact ⟨by omega, (by subst hq; rfl), hS.kp⟩)
                     | (right; rw [fin2 (by omega) (by omega) (by omega)]; exact ⟨by omega, rfl, hS.kp⟩)
                     | (right; rw [f3 (by omega) (by omega) (by omega)]; exact ⟨by omega, rfl, hS.kp⟩)
                     | (right; rw [f4 (by omega) (by omega) (by omega) hc6']; exact ⟨by omega, rfl, hS.kp⟩)
                     | (left; exact ⟨L, _, c', f5 (by omega) (by omega) (by omega) hc6', rfl, .inl rfl, rfl, ⟨viewV hS.ok 2 rfl, hfr⟩, hS.kp⟩)
                try (exfalso; first | with_reducible exact absurd hc6 Bool.false_ne_true | with_reducible exact absurd hc6.symm Bool.false_ne_true | (simp only [nrm] at hc6; omega) | (simp at hc6; done))
                all_goals
                 try simp only [nrm] at hc6
                 have hc6' : (Z = 6 ∧ pr = 41) ∨ (Z ≠ 6 ∧ pr ≠ 41) := by
                   by_cases q6 : Z = 6 <;> by_cases q41 : pr = 41 <;> first | exact .inl ⟨q6, q41⟩ | exact .inr ⟨q6, q41⟩ | (exfalso; simp [q6, q41] at hc6; try omega)
                 refine wp_skip ?_
                 refine then_n (hK27 _ _ ?_); clear hK27 K27
                 refine wp_seq_k ?_; intro K31 hK31
                 replace hS := hS.pick [3, 0, 2, 4] rfl rfl
                 try replace hS := St.nm (M' := [.blk _ _ [_, _, _, _, _, _, _], .blk _ _ [_, _, _, _, _, _, _], .vw _ _, .vw _ _]) hS rfl
                 refine rg_startk 1 hS mixed_ ?_
                 clear hS; intro w hS
                 refine rg_take 0 rfl rfl (by kernel_rfl) (by kernel_rfl) (by kernel_rfl) (want_0) (fun w hok => x_move (tmS rfl rfl)) ?_
                 refine rg_take 1 rfl rfl (by kernel_rfl) (by kernel_rfl) (by kernel_rfl) (want_0) (fun w hok => x_loadA (cs := [_, _, _, _, _, _, _]) Try.underlying32 rfl ts_32 (tmP rfl rfl) (rangeB hok 0 rfl rfl)) ?_
                 refine rg_take 2 rfl rfl (by kernel_rfl) (by kernel_rfl) (by kernel_rfl) (want_0) (fun w hok => x_assign (tmS rfl rfl)) ?_
                 refine rg_step 3 rfl (by kernel_rfl) (want_0) (oks_drop hS 1 rfl) ?_; intro K hK
                 refine ow_storeA hS 0 rfl ts_32 (tmP rfl rfl) (tmA rfl rfl) rfl rfl rfl ?_
                 clear hS; intro w hS
                 try replace hS := St.nm (M' := [.blk _ _ [_, _, _, _, _, _, _], .blk _ _ [_, _, _, _, _, _, _], .vw _ _, .vw _ _]) hS rfl
                 refine hK _ _ ?_; clear hK K
                 refine rg_take 4 rfl rfl (by kernel_rfl) (by kernel_rfl) (by kernel_rfl) (want_0) (fun w hok => x_assign (ev_cN 0)) ?_
                 refine rg_done (oks_drop hS 1 rfl) (by kernel_rfl) ?_
                 refine then_n (hK31 _ _ ?_); clear hK31 K31
                 refine wp_ret ?_
                 refine ret3 rfl (.tmp rfl (show _ = Value.slice _ _ _ from rfl)) (.cell rfl rfl (load_rowB (cs := [_, _, _, _, _, _, _]) hS.ok 0 rfl Try.underlying32 rfl ts_32 rfl)) (.tmp rfl (show _ = Value.int _ _ from rfl)) ?_
                 first
                   | (right; rw [fin1 (by omega)]; exact ⟨by omega, (by subst hq; rfl), hS.kp⟩)
                   | (right; rw [fin2 (by omega) (by omega) (by omega)]; exact ⟨by omega, rfl, hS.kp⟩)
                   | (right; rw [f3 (by omega) (by omega) (by omega)]; exact ⟨by omega, rfl, hS.kp⟩)
                   | (right; rw [f4 (by omega) (by omega) (by omega) hc6']; exact ⟨by omega, rfl, hS.kp⟩)
                   | (left; exact ⟨L, _, c', f5 (by omega) (by omega) (by omega) hc6', rfl, .inl rfl, rfl, ⟨viewV hS.ok 2 rfl, hfr⟩, hS.kp⟩)
           have hg17_2' := hg17_2; (try simp only [nrm] at hg17_2'); try (exfalso; first | with_reducible exact absurd hg17_2 Bool.false_ne_true | with_reducible exact absurd hg17_2.symm Bool.false_ne_true | omega | (simp at hg17_2; done))
           all_goals
            refine wl_s rfl (want_n rfl rfl rfl rfl (by rw [hg17_2]; rfl)) ?_
            refine wl_s rfl (want_n rfl rfl rfl rfl (by rw [hg17_2]; rfl)) ?_
            refine wl_v (x_pickF (tmB rfl rfl) hg17_2 ev_c) ?_
            refine wl_nil ?_
            refine then_n (hK19 _ _ ?_); clear hK19 K19
            refine cnd_f (tmB rfl rfl) rfl ?_
            refine wp_skip ?_
            refine then_n (hK18 _ _ ?_); clear hK18 K18
            refine wp_seq_k ?_; intro K33 hK33
            refine wlit ?_
            refine wl_v (x_move (tmS rfl rfl)) ?_
            refine wl_e rfl ?_; intro K hK
            refine ow_call Try.func21 rfl rfl (evs_cons (tmS rfl rfl) <| evs_nil) (hsx _ _ _ (viewV hS.ok 2 rfl)) ?_
            rintro e w ⟨rfl, hk⟩
            refine ⟨_, rfl, ?_⟩
            replace hS := hS.kept hk
            clear hk
            refine hK _ _ ?_; clear hK K
            refine wl_v (x_assign (tmI rfl rfl)) ?_
            refine wl_nil ?_
            refine then_n (hK33 _ _ ?_); clear hK33 K33
            refine wp_seq_k ?_; intro K34 hK34
            refine wp_seq_k ?_; intro K35 hK35
            refine wlit ?_
            refine wl_v (x_move (tmI rfl rfl)) ?_
            refine wl_e rfl ?_; intro K hK
            refine ow_call Try.func87 rfl rfl (evs_cons (tmI rfl rfl) <| evs_nil) (hfx _) ?_
            rintro e w ⟨rfl, hk⟩
            refine ⟨_, rfl, ?_⟩
            replace hS := hS.kept hk
            clear hk
            refine hK _ _ ?_; clear hK K
            refine wl_v (x_neq (tmI rfl rfl) (ev_cN 0)) ?_
            refine wl_nil ?_
            refine then_n (hK35 _ _ ?_); clear hK35 K35
            refine cnd (tm rfl) (fun hc5 => ?_) (fun hc5 => ?_)
            · try (exfalso; first | with_reducible exact absurd hc5 Bool.false_ne_true | with_reducible exact absurd hc5.symm Bool.false_ne_true | (simp only [nrm] at hc5; omega) | (simp at hc5; done))
              all_goals
               try simp only [nrm] at hc5
               refine wp_seq_k ?_; intro K36 hK36
               refine wlit ?_
               refine wl_v (x_build (bc_skipL [.bool false, .int .u64 0, .int .u64 0] <| bc_skipL [.bool false, .int .u64 0, .int .u64 0] <| bc_skip (.int .u8 0) <| bc_nil) (by kernel_rfl)) ?_
               refine wl_v (x_move (tmI rfl rfl)) ?_
               refine wl_e rfl ?_; intro K hK
               refine ow_call Try.func87 rfl rfl (evs_cons (tmI rfl rfl) <| evs_nil) (hfx _) ?_
               rintro e w ⟨rfl, hk⟩
               refine ⟨_, rfl, ?_⟩
               replace hS := hS.kept hk
               clear hk
               refine hK _ _ ?_; clear hK K
               refine wl_v (x_assign ev_c) ?_
               refine wl_e rfl ?_; intro K hK
               refine ow_storeA hS 3 rfl ts_32 (tmP rfl rfl) (tmA rfl rfl) rfl rfl rfl ?_
               clear hS; intro w hS
               try replace hS := St.nm (M' := [.blk _ _ [_, _, _, _, _, _, _], .blk _ _ [_, _, _, _, _, _, _, _, _, _, _, _, _, _, _, _], .vw _ _, .blk _ _ [_, _, _, _, _, _, _], .vw _ _]) hS rfl
               refine hK _ _ ?_; clear hK K
               refine wl_v (x_assign (tmI rfl rfl)) ?_
               refine wl_nil ?_
               refine then_n (hK36 _ _ ?_); clear hK36 K36
               refine wp_ret ?_
               refine then_r ?_
               refine ret3 rfl (.tmp rfl (show _ = Value.slice _ _ _ from rfl)) (.cell rfl rfl (load_rowB (cs := [_, _, _, _, _, _, _]) hS.ok 3 rfl Try.underlying32 rfl ts_32 rfl)) (.tmp rfl (show _ = Value.int _ _ from rfl)) ?_
               first
                 | (right; rw [fin1 (by omega)]; exact ⟨by omega, (by subst hq; rfl), hS.kp⟩)
                 | (right; rw [fin2 (by omega) (by omega) (by omega)]; exact ⟨by omega, rfl, hS.kp⟩)
                 | (right; rw [f3 (by omega) (by omega) (by omega)]; exact ⟨by omega, rfl, hS.kp⟩)
                 | (right; rw [f4 (by omega) (by omega) (by omega) hc6']; exact ⟨by omega, rfl, hS.kp⟩)
                 | (left; exact ⟨L, _, c', f5 (by omega) (by omega) (by omega) hc6', rfl, .inl rfl, rfl, ⟨viewV hS.ok 2 rfl, hfr⟩, hS.kp⟩)
            try (exfalso; first | with_reducible exact absurd hc5 Bool.false_ne_true | with_reducible exact absurd hc5.symm Bool.false_ne_true | (simp only [nrm] at hc5; omega) | (simp at hc5; done))
            all_goals
             try simp only [nrm] at hc5
             refine wp_skip ?_
             refine then_n (hK34 _ _ ?_); clear hK34 K34
             refine wp_seq_k ?_; intro K38 hK38
             refine wp_seq_k ?_; intro K39 hK39
             refine wlit ?_
             refine wl_v (x_move (tmI rfl rfl)) ?_
             refine wl_v (x_eql (tmI rfl rfl) (ev_cN 6)) ?_
             refine wl_v (x_move (tmI rfl rfl)) ?_
             refine wl_v (x_eql (tmI rfl rfl) (ev_cN 41)) ?_
             refine wl_v (x_bneq Try.underlying4 (tmB rfl rfl) (tmB rfl rfl)) ?_
             refine wl_nil ?_
             refine then_n (hK39 _ _ ?_); clear hK39 K39
             refine cnd (tm rfl) (fun hc6 => ?_) (fun hc6 => ?_)
             · try (exfalso; first | with_reducible exact absurd hc6 Bool.false_ne_true | with_reducible exact absurd hc6.symm Bool.false_ne_true | (simp only [nrm] at hc6; omega) | (simp at hc6; done))
               all_goals
                try simp only [nrm] at hc6
                have hc6' : (Z = 6 ∧ pr ≠ 41) ∨ (Z ≠ 6 ∧ pr = 41) := by
                  by_cases q6 : Z = 6 <;> by_cases q41 : pr = 41 <;> first | exact .inl ⟨q6, q41⟩ | exact .inr ⟨q6, q41⟩ | (exfalso; simp [q6, q41] at hc6; try omega)
                refine wp_seq_k ?_; intro K40 hK40
                refine wlit ?_
                refine wl_v (x_build (bc_skipL [.bool false, .int .u64 0, .int .u64 0] <| bc_skipL [.bool false, .int .u64 0, .int .u64 0] <| bc_skip (.int .u8 0) <| bc_nil) (by kernel_rfl)) ?_
                refine wl_v (x_assign ev_c) ?_
                refine wl_e rfl ?_; intro K hK
                refine ow_storeA hS 3 rfl ts_32 (tmP rfl rfl) (tmA rfl rfl) rfl rfl rfl ?_
                clear hS; intro w hS
                try replace hS := St.nm (M' := [.blk _ _ [_, _, _, _, _, _, _], .blk _ _ [_, _, _, _, _, _, _, _, _, _, _, _, _, _, _, _], .vw _ _, .blk _ _ [_, _, _, _, _, _, _], .vw _ _]) hS rfl
                refine hK _ _ ?_; clear hK K
                refine wl_v (x_assign (ev_cN 21)) ?_
                refine wl_nil ?_
                refine then_n (hK40 _ _ ?_); clear hK40 K40
                refine wp_ret ?_
                refine then_r ?_
                refine ret3 rfl (.tmp rfl (show _ = Value.slice _ _ _ from rfl)) (.cell rfl rfl (load_rowB (cs := [_, _, _, _, _, _, _]) hS.ok 3 rfl Try.underlying32 rfl ts_32 rfl)) (.tmp rfl (show _ = Value.int _ _ from rfl)) ?_
                first
                  | (right; rw [fin1 (by omega)]; exact ⟨by omega, (by subst hq; rfl), hS.kp⟩)
                  | (right; rw [fin2 (by omega) (by omega) (by omega)]; exact ⟨by omega, rfl, hS.kp⟩)
                  | (right; rw [f3 (by omega) (by omega) (by omega)]; exact ⟨by omega, rfl, hS.kp⟩)
                  | (right; rw [f4 (by omega) (by omega) (by omega) hc6']; exact ⟨by omega, rfl, hS.kp⟩)
                  | (left; exact ⟨L, _, c', f5 (by omega) (by omega) (by omega) hc6', rfl, .inl rfl, rfl, ⟨viewV hS.ok 2 rfl, hfr⟩, hS.kp⟩)
             try (exfalso; first | with_reducible exact absurd hc6 Bool.false_ne_true | with_reducible exact absurd hc6.symm Bool.false_ne_true | (simp only [nrm] at hc6; omega) | (simp at hc6; done))
             all_goals
              try simp only [nrm] at hc6
              have hc6' : (Z = 6 ∧ pr = 41) ∨ (Z ≠ 6 ∧ pr ≠ 41) := by
                by_cases q6 : Z = 6 <;> by_cases q41 : pr = 41 <;> first | exact .inl ⟨q6, q41⟩ | exact .inr ⟨q6, q41⟩ | (exfalso; simp [q6, q41] at hc6; try omega)
              refine wp_skip ?_
              refine then_n (hK38 _ _ ?_); clear hK38 K38
              refine wp_seq_k ?_; intro K42 hK42
              replace hS := hS.pick [3, 0, 2, 4] rfl rfl
              try replace hS := St.nm (M' := [.blk _ _ [_, _, _, _, _, _, _], .blk _ _ [_, _, _, _, _, _, _], .vw _ _, .vw _ _]) hS rfl
              refine rg_startk 1 hS mixed_ ?_
              clear hS; intro w hS
              refine rg_take 0 rfl rfl (by kernel_rfl) (by kernel_rfl) (by kernel_rfl) (want_0) (fun w hok => x_move (tmS rfl rfl)) ?_
              refine rg_take 1 rfl rfl (by kernel_rfl) (by kernel_rfl) (by kernel_rfl) (want_0) (fun w hok => x_loadA (cs := [_, _, _, _, _, _, _]) Try.underlying32 rfl ts_32 (tmP rfl rfl) (rangeB hok 0 rfl rfl)) ?_
              refine rg_take 2 rfl rfl (by kernel_rfl) (by kernel_rfl) (by kernel_rfl) (want_0) (fun w hok => x_assign (tmS rfl rfl)) ?_
              refine rg_step 3 rfl (by kernel_rfl) (want_0) (oks_drop hS 1 rfl) ?_; intro K hK
              refine ow_storeA hS 0 rfl ts_32 (tmP rfl rfl) (tmA rfl rfl) rfl rfl rfl ?_
              clear hS; intro w hS
              try replace hS := St.nm (M' := [.blk _ _ [_, _, _, _, _, _, _], .blk _ _ [_, _, _, _, _, _, _], .vw _ _, .vw _ _]) hS rfl
              refine hK _ _ ?_; clear hK K
              refine rg_take 4 rfl rfl (by kernel_rfl) (by kernel_rfl) (by kernel_rfl) (want_0) (fun w hok => x_assign (ev_cN 0)) ?_
              refine rg_done (oks_drop hS 1 rfl) (by kernel_rfl) ?_
              refine then_n (hK42 _ _ ?_); clear hK42 K42
              refine wp_ret ?_
              refine ret3 rfl (.tmp rfl (show _ = Value.slice _ _ _ from rfl)) (.cell rfl rfl (load_rowB (cs := [_, _, _, _, _, _, _]) hS.ok 0 rfl Try.underlying32 rfl ts_32 rfl)) (.tmp rfl (show _ = Value.int _ _ from rfl)) ?_
              first
                | (right; rw [fin1 (by omega)]; exact ⟨by omega, (by subst hq; rfl), hS.kp⟩)
                | (right; rw [fin2 (by omega) (by omega) (by omega)]; exact ⟨by omega, rfl, hS.kp⟩)
                | (right; rw [f3 (by omega) (by omega) (by omega)]; exact ⟨by omega, rfl, hS.kp⟩)
                | (right; rw [f4 (by omega) (by omega) (by omega) hc6']; exact ⟨by omega, rfl, hS.kp⟩)
                | (left; exact ⟨L, _, c', f5 (by omega) (by omega) (by omega) hc6', rfl, .inl rfl, rfl, ⟨viewV hS.ok 2 rfl, hfr⟩, hS.kp⟩)
       have hg13_5' := hg13_5; (try simp only [nrm] at hg13_5'); try (exfalso; first | with_reducible exact absurd hg13_5 Bool.false_ne_true | with_reducible exact absurd hg13_5.symm Bool.false_ne_true | omega | (simp at hg13_5; done))
       all_goals
        refine wl_gv (want_y rfl rfl rfl rfl (by rw [hg13_5]; rfl)) (x_fa 5 Try.underlying42 rfl rfl ts_3 (tmP rfl rfl)) ?_
        first
         | refine wl_gv (want_y rfl rfl rfl rfl (by rw [hg13_5]; rfl)) (x_load Try.underlying3 rfl (tmP rfl rfl) (cellB hS.ok 1 rfl rfl)) ?_
         | refine wl_gv (want_y rfl rfl rfl rfl (by rw [hg13_5]; rfl)) (x_load Try.underlying3 rfl (tmP rfl rfl) (cellB hS.ok 1 rfl (getm (by omega)))) ?_
        refine wl_gv (want_y rfl rfl rfl rfl (by rw [hg13_5]; rfl)) (x_gtr (tmI rfl rfl) (ev_cN 0)) ?_
        refine wl_gv (want_y rfl rfl rfl rfl (by rw [hg13_2]; rfl)) (x_pickF (tmB rfl rfl) hg13_5 (tmB rfl rfl)) ?_
        refine wl_v (x_pickT (tmB rfl rfl) hg13_2 (tmB rfl rfl)) ?_
        refine wl_nil ?_
        refine then_n (hK13 _ _ ?_); clear hK13 K13
        refine cnd (tm rfl) (fun hc2 => ?_) (fun hc2 => ?_)
        · try (exfalso; first | with_reducible exact absurd hc2 Bool.false_ne_true | with_reducible exact absurd hc2.symm Bool.false_ne_true | (simp only [nrm] at hc2; omega) | (simp at hc2; done))
          all_goals
           try simp only [nrm] at hc2
           refine wlit ?_
           refine wl_v (x_assign (ev_cN 21)) ?_
           refine wl_nil ?_
           refine then_n (hK9 _ _ ?_); clear hK9 K9
           refine wp_seq_k ?_; intro K44 hK44
           refine wp_seq_k ?_; intro K45 hK45
           first
             | have hq : e9 = 21 := q1 (by omega) hg13_5
             | have hq : e9 = 21 := q2 (by omega) (by omega)
             | have hq : e9 = er := q3 (by omega)
             | have hq : e9 = er := q4 (by omega) hg13_5 (by omega)
           refine wlit ?_
           refine wl_v (x_move (tmI rfl rfl)) ?_
           refine wl_v (x_neq (tmI rfl rfl) (ev_cN 0)) ?_
           refine wl_nil ?_
           refine then_n (hK45 _ _ ?_); clear hK45 K45
           refine cnd (tm rfl) (fun hc3 => ?_) (fun hc3 => ?_)
           · try (exfalso; first | with_reducible exact absurd hc3 Bool.false_ne_true | with_reducible exact absurd hc3.symm Bool.false_ne_true | (simp only [nrm] at hc3; omega) | (simp at hc3; done))
             all_goals
              try simp only [nrm] at hc3
              refine wp_seq_k ?_; intro K46 hK46
              refine wlit ?_
              refine wl_v (x_build (bc_skipL [.bool false, .int .u64 0, .int .u64 0] <| bc_skipL [.bool false, .int .u64 0, .int .u64 0] <| bc_skip (.int .u8 0) <| bc_nil) (by kernel_rfl)) ?_
              refine wl_v (x_move (tmI rfl rfl)) ?_
              refine wl_v (x_assign ev_c) ?_
              refine wl_e rfl ?_; intro K hK
              refine ow_storeA hS 3 rfl ts_32 (tmP rfl rfl) (tmA rfl rfl) rfl rfl rfl ?_
              clear hS; intro w hS
              try replace hS := St.nm (M' := [.blk _ _ [_, _, _, _, _, _, _], .blk _ _ [_, _, _, _, _, _, _, _, _, _, _, _, _, _, _, _], .vw _ _, .blk _ _ [_, _, _, _, _, _, _], .vw _ _]) hS rfl
              refine hK _ _ ?_; clear hK K
              refine wl_v (x_assign (tmI rfl rfl)) ?_
              refine wl_nil ?_
              refine then_n (hK46 _ _ ?_); clear hK46 K46
              refine wp_ret ?_
              refine then_r ?_
              refine ret3 rfl (.tmp rfl (show _ = Value.slice _ _ _ from rfl)) (.cell rfl rfl (load_rowB (cs := [_, _, _, _, _, _, _]) hS.ok 3 rfl Try.underlying32 rfl ts_32 rfl)) (.tmp rfl (show _ = Value.int _ _ from rfl)) ?_
              first
                | (right; rw [fin1 (by omega)]; exact ⟨by omega, (by subst hq; rfl), hS.kp⟩)
                | (right; rw [fin2 (by omega) (by omega) (by omega)]; exact ⟨by omega, rfl, hS.kp⟩)
                | (right; rw [f3 (by omega) (by omega) (by omega)]; exact ⟨by omega, rfl, hS.kp⟩)
                | (right; rw [f4 (by omega) (by omega) (by omega) hc6']; exact ⟨by omega, rfl, hS.kp⟩)
                | (left; exact ⟨L, _, c', f5 (by omega) (by omega) (by omega) hc6', rfl, .inl rfl, rfl, ⟨viewV hS.ok 2 rfl, hfr⟩, hS.kp⟩)
           try (exfalso; first | with_reducible exact absurd hc3 Bool.false_ne_true | with_reducible exact absurd hc3.symm Bool.false_ne_true | (simp only [nrm] at hc3; omega) | (simp at hc3; done))
           all_goals
            try simp only [nrm] at hc3
            refine wp_skip ?_
            refine then_n (hK44 _ _ ?_); clear hK44 K44
            refine wp_seq_k ?_; intro K48 hK48
            refine wp_seq_k ?_; intro K49 hK49
            refine wlit ?_
            refine wl_v (x_move (tmI rfl rfl)) ?_
            refine wl_v (x_neq (tmI rfl rfl) (ev_cN 4)) ?_
            refine wl_v (x_move (tmB rfl rfl)) ?_
            refine gs_wl (tm (t := 78) rfl) (fun hg17_2 => ?_) (fun hg17_2 => ?_)
            · have hg17_2' := hg17_2; (try simp only [nrm] at hg17_2'); try (exfalso; first | with_reducible exact absurd hg17_2 Bool.false_ne_true | with_reducible exact absurd hg17_2.symm Bool.false_ne_true | omega | (simp at hg17_2; done))
              all_goals
               refine wl_gv (want_y rfl rfl rfl rfl (by rw [hg17_2]; rfl)) (x_move (tmI rfl rfl)) ?_
               refine wl_gv (want_y rfl rfl rfl rfl (by rw [hg17_2]; rfl)) (x_neq (tmI rfl rfl) (ev_cN 41)) ?_
               refine wl_v (x_pickT (tmB rfl rfl) hg17_2 (tmB rfl rfl)) ?_
               refine wl_nil ?_
               refine then_n (hK49 _ _ ?_); clear hK49 K49
               refine cnd (tm rfl) (fun hc4 => ?_) (fun hc4 => ?_)
               · try (exfalso; first | with_reducible exact absurd hc4 Bool.false_ne_true | with_reducible exact absurd hc4.symm Bool.false_ne_true | (simp only [nrm] at hc4; omega) | (simp at hc4; done))
                 all_goals
                  try simp only [nrm] at hc4
                  refine wp_seq_k ?_; intro K50 hK50
                  refine wlit ?_
                  refine wl_v (x_build (bc_skipL [.bool false, .int .u64 0, .int .u64 0] <| bc_skipL [.bool false, .int .u64 0, .int .u64 0] <| bc_skip (.int .u8 0) <| bc_nil) (by kernel_rfl)) ?_
                  refine wl_v (x_assign ev_c) ?_
                  refine wl_e rfl ?_; intro K hK
                  refine ow_storeA hS 3 rfl ts_32 (tmP rfl rfl) (tmA rfl rfl) rfl rfl rfl ?_
                  clear hS; intro w hS
                  try replace hS := St.nm (M' := [.blk _ _ [_, _, _, _, _, _, _], .blk _ _ [_, _, _, _, _, _, _, _, _, _, _, _, _, _, _, _], .vw _ _, .blk _ _ [_, _, _, _, _, _, _], .vw _ _]) hS rfl
                  refine hK _ _ ?_; clear hK K
                  refine wl_v (x_assign (ev_cN 6)) ?_
                  refine wl_nil ?_
                  refine then_n (hK50 _ _ ?_); clear hK50 K50
                  refine wp_ret ?_
                  refine then_r ?_
                  refine ret3 rfl (.tmp rfl (show _ = Value.slice _ _ _ from rfl)) (.cell rfl rfl (load_rowB (cs := [_, _, _, _, _, _, _]) hS.ok 3 rfl Try.underlying32 rfl ts_32 rfl)) (.tmp rfl (show _ = Value.int _ _ from rfl)) ?_
                  first
                    | (right; rw [fin1 (by omega)]; exact ⟨by omega, (by subst hq; rfl), hS.kp⟩)
                    | (right; rw [fin2 (by omega) (by omega) (by omega)]; exact ⟨by omega, rfl, hS.kp⟩)
                    | (right; rw [f3 (by omega) (by omega) (by omega)]; exact ⟨by omega, rfl, hS.kp⟩)
                    | (right; rw [f4 (by omega) (by omega) (by omega) hc6']; exact ⟨by omega, rfl, hS.kp⟩)
                    | (left; exact ⟨L, _, c', f5 (by omega) (by omega) (by omega) hc6', rfl, .inl rfl, rfl, ⟨viewV hS.ok 2 rfl, hfr⟩, hS.kp⟩)
               try (exfalso; first | with_reducible exact absurd hc4 Bool.false_ne_true | with_reducible exact absurd hc4.symm Bool.false_ne_true | (simp only [nrm] at hc4; omega) | (simp at hc4; done))
               all_goals
                try simp only [nrm] at hc4
                refine wp_skip ?_
                refine then_n (hK48 _ _ ?_); clear hK48 K48
                refine wp_seq_k ?_; intro K52 hK52
                refine wlit ?_
                refine wl_v (x_move (tmS rfl rfl)) ?_
                refine wl_e rfl ?_; intro K hK
                refine ow_call Try.func21 rfl rfl (evs_cons (tmS rfl rfl) <| evs_nil) (hsx _ _ _ (viewV hS.ok 2 rfl)) ?_
                rintro e w ⟨rfl, hk⟩
                refine ⟨_, rfl, ?_⟩
                replace hS := hS.kept hk
                clear hk
                refine hK _ _ ?_; clear hK K
                refine wl_v (x_assign (tmI rfl rfl)) ?_
                refine wl_nil ?_
                refine then_n (hK52 _ _ ?_); clear hK52 K52
                refine wp_seq_k ?_; intro K53 hK53
                refine wp_seq_k ?_; intro K54 hK54
                refine wlit ?_
                refine wl_v (x_move (tmI rfl rfl)) ?_
                refine wl_e rfl ?_; intro K hK
                refine ow_call Try.func87 rfl rfl (evs_cons (tmI rfl rfl) <| evs_nil) (hfx _) ?_
                rintro e w ⟨rfl, hk⟩
                refine ⟨_, rfl, ?_⟩
                replace hS := hS.kept hk
                clear hk
                refine hK _ _ ?_; clear hK K
                refine wl_v (x_neq (tmI rfl rfl) (ev_cN 0)) ?_
                refine wl_nil ?_
                refine then_n (hK54 _ _ ?_); clear hK54 K54
                refine cnd (tm rfl) (fun hc5 => ?_) (fun hc5 => ?_)
                · try (exfalso; first | with_reducible exact absurd hc5 Bool.false_ne_true | with_reducible exact absurd hc5.symm Bool.false_ne_true | (simp only [nrm] at hc5; omega) | (simp at hc5; done))
                  all_goals
                   try simp only [nrm] at hc5
                   refine wp_seq_k ?_; intro K55 hK55
                   refine wlit ?_
                   refine wl_v (x_build (bc_skipL [.bool false, .int .u64 0, .int .u64 0] <| bc_skipL [.bool false, .int .u64 0, .int .u64 0] <| bc_skip (.int .u8 0) <| bc_nil) (by kernel_rfl)) ?_
                   refine wl_v (x_move (tmI rfl rfl)) ?_
                   refine wl_e rfl ?_; intro K hK
                   refine ow_call Try.func87 rfl rfl (evs_cons (tmI rfl rfl) <| evs_nil) (hfx _) ?_
                   rintro e w ⟨rfl, hk⟩
                   refine ⟨_, rfl, ?_⟩
                   replace hS := hS.kept hk
                   clear hk
                   refine hK _ _ ?_; clear hK K
                   refine wl_v (x_assign ev_c) ?_
                   refine wl_e rfl ?_; intro K hK
                   refine ow_storeA hS 3 rfl ts_32 (tmP rfl rfl) (tmA rfl rfl) rfl rfl rfl ?_
                   clear hS; intro w hS
                   try replace hS := St.nm (M' := [.blk _ _ [_, _, _, _, _, _, _], .blk _ _ [_, _, _, _, _, _, _, _, _, _, _, _, _, _, _, _], .vw _ _, .blk _ _ [_, _, _, _, _, _, _], .vw _ _]) hS rfl
                   refine hK _ _ ?_; clear hK K
                   refine wl_v (x_assign (tmI rfl rfl)) ?_
                   refine wl_nil ?_
                   refine then_n (hK55 _ _ ?_); clear hK55 K55
                   refine wp_ret ?_
                   refine then_r ?_
                   refine ret3 rfl (.tmp rfl (show _ = Value.slice _ _ _ from rfl)) (.cell rfl rfl (load_rowB (cs := [_, _, _, _, _, _, _]) hS.ok 3 rfl Try.underlying32 rfl ts_32 rfl)) (.tmp rfl (show _ = Value.int _ _ from rfl)) ?_
                   first
                     | (right; rw [fin1 (by omega)]; exact ⟨by omega, (by subst hq; rfl), hS.kp⟩)
                     | (right; rw [fin2 (by omega) (by omega) (by omega)]; exact ⟨by omega, rfl, hS.kp⟩)
                     | (right; rw [f3 (by omega) (by omega) (by omega)]; exact ⟨by omega, rfl, hS.kp⟩)
                     | (right; rw [f4 (by omega) (by omega) (by omega) hc6']; exact ⟨by omega, rfl, hS.kp⟩)
                     | (left; exact ⟨L, _, c', f5 (by omega) (by omega) (by omega) hc6', rfl, .inl rfl, rfl, ⟨viewV hS.ok 2 rfl, hfr⟩, hS.kp⟩)
                try (exfalso; first | with_reducible exact absurd hc5 Bool.false_ne_true | with_reducible exact absurd hc5.symm Bool.false_ne_true | (simp only [nrm] at hc5; omega) | (simp at hc5; done))
                all_goals
                 try simp only [nrm] at hc5
                 refine wp_skip ?_
                 refine then_n (hK53 _ _ ?_); clear hK53 K53
                 refine wp_seq_k ?_; intro K57 hK57
                 refine wp_seq_k ?_; intro K58 hK58
                 refine wlit ?_
                 refine wl_v (x_move (tmI rfl rfl)) ?_
                 refine wl_v (x_eql (tmI rfl rfl) (ev_cN 6)) ?_
                 refine wl_v (x_move (tmI rfl rfl)) ?_
                 refine wl_v (x_eql (tmI rfl rfl) (ev_cN 41)) ?_
                 refine wl_v (x_bneq Try.underlying4 (tmB rfl rfl) (tmB rfl rfl)) ?_
                 refine wl_nil ?_
                 refine then_n (hK58 _ _ ?_); clear hK58 K58
                 refine cnd (tm rfl) (fun hc6 => ?_) (fun hc6 => ?_)
                 · try (exfalso; first | with_reducible exact absurd hc6 Bool.false_ne_true | with_reducible exact absurd hc6.symm Bool.false_ne_true | (simp only [nrm] at hc6; omega) | (simp at hc6; done))
                   all_goals
                    try simp only [nrm] at hc6
                    have hc6' : (Z = 6 ∧ pr ≠ 41) ∨ (Z ≠ 6 ∧ pr = 41) := by
                      by_cases q6 : Z = 6 <;> by_cases q41 : pr = 41 <;> first | exact .inl ⟨q6, q41⟩ | exact .inr ⟨q6, q41⟩ | (exfalso; simp [q6, q41] at hc6; try omega)
                    refine wp_seq_k ?_; intro K59 hK59
                    refine wlit ?_
                    refine wl_v (x_build (bc_skipL [.bool false, .int .u64 0, .int .u64 0] <| bc_skipL [.bool false, .int .u64 0, .int .u64 0] <| bc_skip (.int .u8 0) <| bc_nil) (by kernel_rfl)) ?_
                    refine wl_v (x_assign ev_c) ?_
                    refine wl_e rfl ?_; intro K hK
                    refine ow_storeA hS 3 rfl ts_32 (tmP rfl rfl) (tmA rfl rfl) rfl rfl rfl ?_
                    clear hS; intro w hS
                    try replace hS := St.nm (M' := [.blk _ _ [_, _, _, _, _, _, _], .blk _ _ [_, _, _, _, _, _, _, _, _, _, _, _, _, _, _, _], .vw _ _, .blk _ _ [_, _, _, _, _, _, _], .vw _ _]) hS rfl
                    refine hK _ _ ?_; clear hK K
                    refine wl_v (x_assign (ev_cN 21)) ?_
                    refine wl_nil ?_
                    refine then_n (hK59 _ _ ?_); clear hK59 K59
                    refine wp_ret ?_
                    refine then_r ?_
                    refine ret3 rfl (.tmp rfl (show _ = Value.slice _ _ _ from rfl)) (.cell rfl rfl (load_rowB (cs := [_, _, _, _, _, _, _]) hS.ok 3 rfl Try.underlying32 rfl ts_32 rfl)) (.tmp rfl (show _ = Value.int _ _ from rfl)) ?_
                    first
                      | (right; rw [fin1 (by omega)]; exact ⟨by omega, (by subst hq; rfl), hS.kp⟩)
                      | (right; rw [fin2 (by omega) (by omega) (by omega)]; exact ⟨by omega, rfl, hS.kp⟩)
                      | (right; rw [f3 (by omega) (by omega) (by omega)]; exact ⟨by omega, rfl, hS.kp⟩)
                      | (right; rw [f4 (by omega) (by omega) (by omega) hc6']; exact ⟨by omega, rfl, hS.kp⟩)
                      | (left; exact ⟨L, _, c', f5 (by omega) (by omega) (by omega) hc6', rfl, .inl rfl, rfl, ⟨viewV hS.ok 2 rfl, hfr⟩, hS.kp⟩)
                 try (exfalso; first | with_reducible exact absurd hc6 Bool.false_ne_true | with_reducible exact absurd hc6.symm Bool.false_ne_true | (simp only [nrm] at hc6; omega) | (simp at hc6; done))
                 all_goals
                  try simp only [nrm] at hc6
                  have hc6' : (Z = 6 ∧ pr = 41) ∨ (Z ≠ 6 ∧ pr ≠ 41) := by
                    by_cases q6 : Z = 6 <;> by_cases q41 : pr = 41 <;> first | exact .inl ⟨q6, q41⟩ | exact .inr ⟨q6, q41⟩ | (exfalso; simp [q6, q41] at hc6; try omega)
                  refine wp_skip ?_
                  refine then_n (hK57 _ _ ?_); clear hK57 K57
                  refine wp_seq_k ?_; intro K61 hK61
                  replace hS := hS.pick [3, 0, 2, 4] rfl rfl
                  try replace hS := St.nm (M' := [.blk _ _ [_, _, _, _, _, _, _], .blk _ _ [_, _, _, _, _, _, _], .vw _ _, .vw _ _]) hS rfl
                  refine rg_startk 1 hS mixed_ ?_
                  clear hS; intro w hS
                  refine rg_take 0 rfl rfl (by kernel_rfl) (by kernel_rfl) (by kernel_rfl) (want_0) (fun w hok => x_move (tmS rfl rfl)) ?_
                  refine rg_take 1 rfl rfl (by kernel_rfl) (by kernel_rfl) (by kernel_rfl) (want_0) (fun w hok => x_loadA (cs := [_, _, _, _, _, _, _]) Try.underlying32 rfl ts_32 (tmP rfl rfl) (rangeB hok 0 rfl rfl)) ?_
                  refine rg_take 2 rfl rfl (by kernel_rfl) (by kernel_rfl) (by kernel_rfl) (want_0) (fun w hok => x_assign (tmS rfl rfl)) ?_
                  refine rg_step 3 rfl (by kernel_rfl) (want_0) (oks_drop hS 1 rfl) ?_; intro K hK
                  refine ow_storeA hS 0 rfl ts_32 (tmP rfl rfl) (tmA rfl rfl) rfl rfl rfl ?_
                  clear hS; intro w hS
                  try replace hS := St.nm (M' := [.blk _ _ [_, _, _, _, _, _, _], .blk _ _ [_, _, _, _, _, _, _], .vw _ _, .vw _ _]) hS rfl
                  refine hK _ _ ?_; clear hK K
                  refine rg_take 4 rfl rfl (by kernel_rfl) (by kernel_rfl) (by kernel_rfl) (want_0) (fun w hok => x_assign (ev_cN 0)) ?_
                  refine rg_done (oks_drop hS 1 rfl) (by kernel_rfl) ?_
                  refine then_n (hK61 _ _ ?_); clear hK61 K61
                  refine wp_ret ?_
                  refine ret3 rfl (.tmp rfl (show _ = Value.slice _ _ _ from rfl)) (.cell rfl rfl (load_rowB (cs := [_, _, _, _, _, _, _]) hS.ok 0 rfl Try.underlying32 rfl ts_32 rfl)) (.tmp rfl (show _ = Value.int _ _ from rfl)) ?_
                  first
                    | (right; rw [fin1 (by omega)]; exact ⟨by omega, (by subst hq; rfl), hS.kp⟩)
                    | (right; rw [fin2 (by omega) (by omega) (by omega)]; exact ⟨by omega, rfl, hS.kp⟩)
                    | (right; rw [f3 (by omega) (by omega) (by omega)]; exact ⟨by omega, rfl, hS.kp⟩)
                    | (right; rw [f4 (by omega) (by omega) (by omega) hc6']; exact ⟨by omega, rfl, hS.kp⟩)
                    | (left; exact ⟨L, _, c', f5 (by omega) (by omega) (by omega) hc6', rfl, .inl rfl, rfl, ⟨viewV hS.ok 2 rfl, hfr⟩, hS.kp⟩)
            have hg17_2' := hg17_2; (try simp only [nrm] at hg17_2'); try (exfalso; first | with_reducible exact absurd hg17_2 Bool.false_ne_true | with_reducible exact absurd hg17_2.symm Bool.false_ne_true | omega | (simp at hg17_2; done))
            all_goals
             refine wl_s rfl (want_n rfl rfl rfl rfl (by rw [hg17_2]; rfl)) ?_
             refine wl_s rfl (want_n rfl rfl rfl rfl (by rw [hg17_2]; rfl)) ?_
             refine wl_v (x_pickF (tmB rfl rfl) hg17_2 ev_c) ?_
             refine wl_nil ?_
             refine then_n (hK49 _ _ ?_); clear hK49 K49
             refine cnd_f (tmB rfl rfl) rfl ?_
             refine wp_skip ?_
             refine then_n (hK48 _ _ ?_); clear hK48 K48
             refine wp_seq_k ?_; intro K63 hK63
             refine wlit ?_
             refine wl_v (x_move (tmS rfl rfl)) ?_
             refine wl_e rfl ?_; intro K hK
             refine ow_call Try.func21 rfl rfl (evs_cons (tmS rfl rfl) <| evs_nil) (hsx _ _ _ (viewV hS.ok 2 rfl)) ?_
             rintro e w ⟨rfl, hk⟩
             refine ⟨_, rfl, ?_⟩
             replace hS := hS.kept hk
             clear hk
             refine hK _ _ ?_; clear hK K
             refine wl_v (x_assign (tmI rfl rfl)) ?_
             refine wl_nil ?_
             refine then_n (hK63 _ _ ?_); clear hK63 K63
             refine wp_seq_k ?_; intro K64 hK64
             refine wp_seq_k ?_; intro K65 hK65
             refine wlit ?_
             refine wl_v (x_move (tmI rfl rfl)) ?_
             refine wl_e rfl ?_; intro K hK
             refine ow_call Try.func87 rfl rfl (evs_cons (tmI rfl rfl) <| evs_nil) (hfx _) ?_
             rintro e w ⟨rfl, hk⟩
             refine ⟨_, rfl, ?_⟩
             replace hS := hS.kept hk
             clear hk
             refine hK _ _ ?_; clear hK K
             refine wl_v (x_neq (tmI rfl rfl) (ev_cN 0)) ?_
             refine wl_nil ?_
             refine then_n (hK65 _ _ ?_); clear hK65 K65
             refine cnd (tm rfl) (fun hc5 => ?_) (fun hc5 => ?_)
             · try (exfalso; first | with_reducible exact absurd hc5 Bool.false_ne_true | with_reducible exact absurd hc5.symm Bool.false_ne_true | (simp only [nrm] at hc5; omega) | (simp at hc5; done))
               all_goals
                try simp only [nrm] at hc5
                refine wp_seq_k ?_; intro K66 hK66
                refine wlit ?_
                refine wl_v (x_build (bc_skipL [.bool false, .int .u64 0, .int .u64 0] <| bc_skipL [.bool false, .int .u64 0, .int .u64 0] <| bc_skip (.int .u8 0) <| bc_nil) (by kernel_rfl)) ?_
                refine wl_v (x_move (tmI rfl rfl)) ?_
                refine wl_e rfl ?_; intro K hK
                refine ow_call Try.func87 rfl rfl (evs_cons (tmI rfl rfl) <| evs_nil) (hfx _) ?_
                rintro e w ⟨rfl, hk⟩
                refine ⟨_, rfl, ?_⟩
                replace hS := hS.kept hk
                clear hk
                refine hK _ _ ?_; clear hK K
                refine wl_v (x_assign ev_c) ?_
                refine wl_e rfl ?_; intro K hK
                refine ow_storeA hS 3 rfl ts_32 (tmP rfl rfl) (tmA rfl rfl) rfl rfl rfl ?_
                clear hS; intro w hS
                try replace hS := St.nm (M' := [.blk _ _ [_, _, _, _, _, _, _], .blk _ _ [_, _, _, _, _, _, _, _, _, _, _, _, _, _, _, _], .vw _ _, .blk _ _ [_, _, _, _, _, _, _], .vw _ _]) hS rfl
                refine hK _ _ ?_; clear hK K
                refine wl_v (x_assign (tmI rfl rfl)) ?_
                refine wl_nil ?_
                refine then_n (hK66 _ _ ?_); clear hK66 K66
                refine wp_ret ?_
                refine then_r ?_
                refine ret3 rfl (.tmp rfl (show _ = Value.slice _ _ _ from rfl)) (.cell rfl rfl (load_rowB (cs := [_, _, _, _, _, _, _]) hS.ok 3 rfl Try.underlying32 rfl ts_32 rfl)) (.tmp rfl (show _ = Value.int _ _ from rfl)) ?_
                first
                  | (right; rw [fin1 (by omega)]; exact ⟨by omega, (by subst hq; rfl), hS.kp⟩)
                  | (right; rw [fin2 (by omega) (by omega) (by omega)]; exact ⟨by omega, rfl, hS.kp⟩)
                  | (right; rw [f3 (by omega) (by omega) (by omega)]; exact ⟨by omega, rfl, hS.kp⟩)
                  | (right; rw [f4 (by omega) (by omega) (by omega) hc6']; exact ⟨by omega, rfl, hS.kp⟩)
                  | (left; exact ⟨L, _, c', f5 (by omega) (by omega) (by omega) hc6', rfl, .inl rfl, rfl, ⟨viewV hS.ok 2 rfl, hfr⟩, hS.kp⟩)
             try (exfalso; first | with_reducible exact absurd hc5 Bool.false_ne_true | with_reducible exact absurd hc5.symm Bool.false_ne_true | (simp only [nrm] at hc5; omega) | (simp at hc5; done))
             all_goals
              try simp only [nrm] at hc5
              refine wp_skip ?_
              refine then_n (hK64 _ _ ?_); clear hK64 K64
              refine wp_seq_k ?_; intro K68 hK68
              refine wp_seq_k ?_; intro K69 hK69
              refine wlit ?_
              refine wl_v (x_move (tmI rfl rfl)) ?_
              refine wl_v (x_eql (tmI rfl rfl) (ev_cN 6)) ?_
              refine wl_v (x_move (tmI rfl rfl)) ?_
              refine wl_v (x_eql (tmI rfl rfl) (ev_cN 41)) ?_
              refine wl_v (x_bneq Try.underlying4 (tmB rfl rfl) (tmB rfl rfl)) ?_
              refine wl_nil ?_
              refine then_n (hK69 _ _ ?_); clear hK69 K69
              refine cnd (tm rfl) (fun hc6 => ?_) (fun hc6 => ?_)
              · try (exfalso; first | with_reducible exact absurd hc6 Bool.false_ne_true | with_reducible exact absurd hc6.symm Bool.false_ne_true | (simp only [nrm] at hc6; omega) | (simp at hc6; done))
                all_goals
                 try simp only [nrm] at hc6
                 have hc6' : (Z = 6 ∧ pr ≠ 41) ∨ (Z ≠ 6 ∧ pr = 41) := by
                   by_cases q6 : Z = 6 <;> by_cases q41 : pr = 41 <;> first | exact .inl ⟨q6, q41⟩ | exact .inr ⟨q6, q41⟩ | (exfalso; simp [q6, q41] at hc6; try omega)
                 refine wp_seq_k ?_; intro K70 hK70
                 refine wlit ?_
                 refine wl_v (x_build (bc_skipL [.bool false, .int .u64 0, .int .u64 0] <| bc_skipL [.bool false, .int .u64 0, .int .u64 0] <| bc_skip (.int .u8 0) <| bc_nil) (by kernel_rfl)) ?_
                 refine wl_v (x_assign ev_c) ?_
                 refine wl_e rfl ?_; intro K hK
                 refine ow_storeA hS 3 rfl ts_32 (tmP rfl rfl) (tmA rfl rfl) rfl rfl rfl ?_
                 clear hS; intro w hS
                 try replace hS := St.nm (M' := [.blk _ _ [_, _, _, _, _, _, _], .blk _ _ [_, _, _, _, _, _, _, _, _, _, _, _, _, _, _, _], .vw _ _, .blk _ _ [_, _, _, _, _, _, _], .vw _ _]) hS rfl
                 refine hK _ _ ?_; clear hK K
                 refine wl_v (x_assign (ev_cN 21)) ?_
                 refine wl_nil ?_
                 refine then_n (hK70 _ _ ?_); clear hK70 K70
                 refine wp_ret ?_
                 refine then_r ?_
                 refine ret3 rfl (.tmp rfl (show _ = Value.slice _ _ _ from rfl)) (.cell rfl rfl (load_rowB (cs := [_, _, _, _, _, _, _]) hS.ok 3 rfl Try.underlying32 rfl ts_32 rfl)) (.tmp rfl (show _ = Value.int _ _ from rfl)) ?_
                 first
                   | (right; rw [fin1 (by omega)]; exact ⟨by omega, (by subst hq; rfl), hS.kp⟩)
                   | (right; rw [fin2 (by omega) (by omega) (by omega)]; exact ⟨by omega, rfl, hS.kp⟩)
                   | (right; rw [f3 (by omega) (by omega) (by omega)]; exact ⟨by omega, rfl, hS.kp⟩)
                   | (right; rw [f4 (by omega) (by omega) (by omega) hc6']; exact ⟨by omega, rfl, hS.kp⟩)
                   | (left; exact ⟨L, _, c', f5 (by omega) (by omega) (by omega) hc6', rfl, .inl rfl, rfl, ⟨viewV hS.ok 2 rfl, hfr⟩, hS.kp⟩)
              try (exfalso; first | with_reducible exact absurd hc6 Bool.false_ne_true | with_reducible exact absurd hc6.symm Bool.false_ne_true | (simp only [nrm] at hc6; omega) | (simp at hc6; done))
              all_goals
               try simp only [nrm] at hc6
               have hc6' : (Z = 6 ∧ pr = 41) ∨ (Z ≠ 6 ∧ pr ≠ 41) := by
                 by_cases q6 : Z = 6 <;> by_cases q41 : pr = 41 <;> first | exact .inl ⟨q6, q41⟩ | exact .inr ⟨q6, q41⟩ | (exfalso; simp [q6, q41] at hc6; try omega)
               refine wp_skip ?_
               refine then_n (hK68 _ _ ?_); clear hK68 K68
               refine wp_seq_k ?_; intro K72 hK72
               replace hS := hS.pick [3, 0, 2, 4] rfl rfl
               try replace hS := St.nm (M' := [.blk _ _ [_, _, _, _, _, _, _], .blk _ _ [_, _, _, _, _, _, _], .vw _ _, .vw _ _]) hS rfl
               refine rg_startk 1 hS mixed_ ?_
               clear hS; intro w hS
               refine rg_take 0 rfl rfl (by kernel_rfl) (by kernel_rfl) (by kernel_rfl) (want_0) (fun w hok => x_move (tmS rfl rfl)) ?_
               refine rg_take 1 rfl rfl (by kernel_rfl) (by kernel_rfl) (by kernel_rfl) (want_0) (fun w hok => x_loadA (cs := [_, _, _, _, _, _, _]) Try.underlying32 rfl ts_32 (tmP rfl rfl) (rangeB hok 0 rfl rfl)) ?_
               refine rg_take 2 rfl rfl (by kernel_rfl) (by kernel_rfl) (by kernel_rfl) (want_0) (fun w hok => x_assign (tmS rfl rfl)) ?_
               refine rg_step 3 rfl (by kernel_rfl) (want_0) (oks_drop hS 1 rfl) ?_; intro K hK
               refine ow_storeA hS 0 rfl ts_32 (tmP rfl rfl) (tmA rfl rfl) rfl rfl rfl ?_
               clear hS; intro w hS
               try replace hS := St.nm (M' := [.blk _ _ [_, _, _, _, _, _, _], .blk _ _ [_, _, _, _, _, _, _], .vw _ _, .vw _ _]) hS rfl
               refine hK _ _ ?_; clear hK K
               refine rg_take 4 rfl rfl (by kernel_rfl) (by kernel_rfl) (by kernel_rfl) (want_0) (fun w hok => x_assign (ev_cN 0)) ?_
               refine rg_done (oks_drop hS 1 rfl) (by kernel_rfl) ?_
               refine then_n (hK72 _ _ ?_); clear hK72 K72
               refine wp_ret ?_
               refine ret3 rfl (.tmp rfl (show _ = Value.slice _ _ _ from rfl)) (.cell rfl rfl (load_rowB (cs := [_, _, _, _, _, _, _]) hS.ok 0 rfl Try.underlying32 rfl ts_32 rfl)) (.tmp rfl (show _ = Value.int _ _ from rfl)) ?_
               first
                 | (right; rw [fin1 (by omega)]; exact ⟨by omega, (by subst hq; rfl), hS.kp⟩)
                 | (right; rw [fin2 (by omega) (by omega) (by omega)]; exact ⟨by omega, rfl, hS.kp⟩)
                 | (right; rw [f3 (by omega) (by omega) (by omega)]; exact ⟨by omega, rfl, hS.kp⟩)
                 | (right; rw [f4 (by omega) (by omega) (by omega) hc6']; exact ⟨by omega, rfl, hS.kp⟩)
                 | (left; exact ⟨L, _, c', f5 (by omega) (by omega) (by omega) hc6', rfl, .inl rfl, rfl, ⟨viewV hS.ok 2 rfl, hfr⟩, hS.kp⟩)
        try (exfalso; first | with_reducible exact absurd hc2 Bool.false_ne_true | with_reducible exact absurd hc2.symm Bool.false_ne_true | (simp only [nrm] at hc2; omega) | (simp at hc2; done))
        all_goals
         try simp only [nrm] at hc2
         refine wp_skip ?_
         refine then_n (hK9 _ _ ?_); clear hK9 K9
         refine wp_seq_k ?_; intro K74 hK74
         refine wp_seq_k ?_; intro K75 hK75
         first
           | have hq : e9 = 21 := q1 (by omega) hg13_5
           | have hq : e9 = 21 := q2 (by omega) (by omega)
           | have hq : e9 = er := q3 (by omega)
           | have hq : e9 = er := q4 (by omega) hg13_5 (by omega)
         refine wlit ?_
         refine wl_v (x_move (tmI rfl rfl)) ?_
         refine wl_v (x_neq (tmI rfl rfl) (ev_cN 0)) ?_
         refine wl_nil ?_
         refine then_n (hK75 _ _ ?_); clear hK75 K75
         refine cnd (tm rfl) (fun hc3 => ?_) (fun hc3 => ?_)
         · try (exfalso; first | with_reducible exact absurd hc3 Bool.false_ne_true | with_reducible exact absurd hc3.symm Bool.false_ne_true | (simp only [nrm] at hc3; omega) | (simp at hc3; done))
           all_goals
            try simp only [nrm] at hc3
            refine wp_seq_k ?_; intro K76 hK76
            refine wlit ?_
            refine wl_v (x_build (bc_skipL [.bool false, .int .u64 0, .int .u64 0] <| bc_skipL [.bool false, .int .u64 0, .int .u64 0] <| bc_skip (.int .u8 0) <| bc_nil) (by kernel_rfl)) ?_
            refine wl_v (x_move (tmI rfl rfl)) ?_
            refine wl_v (x_assign ev_c) ?_
            refine wl_e rfl ?_; intro K hK
            refine ow_storeA hS 3 rfl ts_32 (tmP rfl rfl) (tmA rfl rfl) rfl rfl rfl ?_
            clear hS; intro w hS
            try replace hS := St.nm (M' := [.blk _ _ [_, _, _, _, _, _, _], .blk _ _ [_, _, _, _, _, _, _, _, _, _, _, _, _, _, _, _], .vw _ _, .blk _ _ [_, _, _, _, _, _, _], .vw _ _]) hS rfl
            refine hK _ _ ?_; clear hK K
            refine wl_v (x_assign (tmI rfl rfl)) ?_
            refine wl_nil ?_
            refine then_n (hK76 _ _ ?_); clear hK76 K76
            refine wp_ret ?_
            refine then_r ?_
            refine ret3 rfl (.tmp rfl (show _ = Value.slice _ _ _ from rfl)) (.cell rfl rfl (load_rowB (cs := [_, _, _, _, _, _, _]) hS.ok 3 rfl Try.underlying32 rfl ts_32 rfl)) (.tmp rfl (show _ = Value.int _ _ from rfl)) ?_
            first
              | (right; rw [fin1 (by omega)]; exact ⟨by omega, (by subst hq; rfl), hS.kp⟩)
              | (right; rw [fin2 (by omega) (by omega) (by omega)]; exact ⟨by omega, rfl, hS.kp⟩)
              | (right; rw [f3 (by omega) (by omega) (by omega)]; exact ⟨by omega, rfl, hS.kp⟩)
              | (right; rw [f4 (by omega) (by omega) (by omega) hc6']; exact ⟨by omega, rfl, hS.kp⟩)
              | (left; exact ⟨L, _, c', f5 (by omega) (by omega) (by omega) hc6', rfl, .inl rfl, rfl, ⟨viewV hS.ok 2 rfl, hfr⟩, hS.kp⟩)
         try (exfalso; first | with_reducible exact absurd hc3 Bool.false_ne_true | with_reducible exact absurd hc3.symm Bool.false_ne_true | (simp only [nrm] at hc3; omega) | (simp at hc3; done))
         all_goals
          try simp only [nrm] at hc3
          refine wp_skip ?_
          refine then_n (hK74 _ _ ?_); clear hK74 K74
          refine wp_seq_k ?_; intro K78 hK78
          refine wp_seq_k ?_; intro K79 hK79
          refine wlit ?_
          refine wl_v (x_move (tmI rfl rfl)) ?_
          refine wl_v (x_neq (tmI rfl rfl) (ev_cN 4)) ?_
          refine wl_v (x_move (tmB rfl rfl)) ?_
          refine gs_wl (tm (t := 78) rfl) (fun hg17_2 => ?_) (fun hg17_2 => ?_)
          · have hg17_2' := hg17_2; (try simp only [nrm] at hg17_2'); try (exfalso; first | with_reducible exact absurd hg17_2 Bool.false_ne_true | with_reducible exact absurd hg17_2.symm Bool.false_ne_true | omega | (simp at hg17_2; done))
            all_goals
             refine wl_gv (want_y rfl rfl rfl rfl (by rw [hg17_2]; rfl)) (x_move (tmI rfl rfl)) ?_
             refine wl_gv (want_y rfl rfl rfl rfl (by rw [hg17_2]; rfl)) (x_neq (tmI rfl rfl) (ev_cN 41)) ?_
             refine wl_v (x_pickT (tmB rfl rfl) hg17_2 (tmB rfl rfl)) ?_
             refine wl_nil ?_
             refine then_n (hK79 _ _ ?_); clear hK79 K79
             refine cnd (tm rfl) (fun hc4 => ?_) (fun hc4 => ?_)
             · try (exfalso; first | with_reducible exact absurd hc4 Bool.false_ne_true | with_reducible exact absurd hc4.symm Bool.false_ne_true | (simp only [nrm] at hc4; omega) | (simp at hc4; done))
               all_goals
                try simp only [nrm] at hc4
                refine wp_seq_k ?_; intro K80 hK80
                refine wlit ?_
                refine wl_v (x_build (bc_skipL [.bool false, .int .u64 0, .int .u64 0] <| bc_skipL [.bool false, .int .u64 0, .int .u64 0] <| bc_skip (.int .u8 0) <| bc_nil) (by kernel_rfl)) ?_
                refine wl_v (x_assign ev_c) ?_
                refine wl_e rfl ?_; intro K hK
                refine ow_storeA hS 3 rfl ts_32 (tmP rfl rfl) (tmA rfl rfl) rfl rfl rfl ?_
                clear hS; intro w hS
                try replace hS := St.nm (M' := [.blk _ _ [_, _, _, _, _, _, _], .blk _ _ [_, _, _, _, _, _, _, _, _, _, _, _, _, _, _, _], .vw _ _, .blk _ _ [_, _, _, _, _, _, _], .vw _ _]) hS rfl
                refine hK _ _ ?_; clear hK K
                refine wl_v (x_assign (ev_cN 6)) ?_
                refine wl_nil ?_
                refine then_n (hK80 _ _ ?_); clear hK80 K80
                refine wp_ret ?_
                refine then_r ?_
                refine ret3 rfl (.tmp rfl (show _ = Value.slice _ _ _ from rfl)) (.cell rfl rfl (load_rowB (cs := [_, _, _, _, _, _, _]) hS.ok 3 rfl Try.underlying32 rfl ts_32 rfl)) (.tmp rfl (show _ = Value.int _ _ from rfl)) ?_
                first
                  | (right; rw [fin1 (by omega)]; exact ⟨by omega, (by subst hq; rfl), hS.kp⟩)
                  | (right; rw [fin2 (by omega) (by omega) (by omega)]; exact ⟨by omega, rfl, hS.kp⟩)
                  | (right; rw [f3 (by omega) (by omega) (by omega)]; exact ⟨by omega, rfl, hS.kp⟩)
                  | (right; rw [f4 (by omega) (by omega) (by omega) hc6']; exact ⟨by omega, rfl, hS.kp⟩)
                  | (left; exact ⟨L, _, c', f5 (by omega) (by omega) (by omega) hc6', rfl, .inl rfl, rfl, ⟨viewV hS.ok 2 rfl, hfr⟩, hS.kp⟩)
             try (exfalso; first | with_reducible exact absurd hc4 Bool.false_ne_true | with_reducible exact absurd hc4.symm Bool.false_ne_true | (simp only [nrm] at hc4; omega) | (simp at hc4; done))
             all_goals
              try simp only [nrm] at hc4
              refine wp_skip ?_
              refine then_n (hK78 _ _ ?_); clear hK78 K78
              refine wp_seq_k ?_; intro K82 hK82
              refine wlit ?_
              refine wl_v (x_move (tmS rfl rfl)) ?_
              refine wl_e rfl ?_; intro K hK
              refine ow_call Try.func21 rfl rfl (evs_cons (tmS rfl rfl) <| evs_nil) (hsx _ _ _ (viewV hS.ok 2 rfl)) ?_
              rintro e w ⟨rfl, hk⟩
              refine ⟨_, rfl, ?_⟩
              replace hS := hS.kept hk
              clear hk
              refine hK _ _ ?_; clear hK K
              refine wl_v (x_assign (tmI rfl rfl)) ?_
              refine wl_nil ?_
              refine then_n (hK82 _ _ ?_); clear hK82 K82
              refine wp_seq_k ?_; intro K83 hK83
              refine wp_seq_k ?_; intro K84 hK84
              refine wlit ?_
              refine wl_v (x_move (tmI rfl rfl)) ?_
              refine wl_e rfl ?_; intro K hK
              refine ow_call Try.func87 rfl rfl (evs_cons (tmI rfl rfl) <| evs_nil) (hfx _) ?_
              rintro e w ⟨rfl, hk⟩
              refine ⟨_, rfl, ?_⟩
              replace hS := hS.kept hk
              clear hk
              refine hK _ _ ?_; clear hK K
              refine wl_v (x_neq (tmI rfl rfl) (ev_cN 0)) ?_
              refine wl_nil ?_
              refine then_n (hK84 _ _ ?_); clear hK84 K84
              refine cnd (tm rfl) (fun hc5 => ?_) (fun hc5 => ?_)
              · try (exfalso; first | with_reducible exact absurd hc5 Bool.false_ne_true | with_reducible exact absurd hc5.symm Bool.false_ne_true | (simp only [nrm] at hc5; omega) | (simp at hc5; done))
                all_goals
                 try simp only [nrm] at hc5
                 refine wp_seq_k ?_; intro K85 hK85
                 refine wlit ?_
                 refine wl_v (x_build (bc_skipL [.bool false, .int .u64 0, .int .u64 0] <| bc_skipL [.bool false, .int .u64 0, .int .u64 0] <| bc_skip (.int .u8 0) <| bc_nil) (by kernel_rfl)) ?_
                 refine wl_v (x_move (tmI rfl rfl)) ?_
                 refine wl_e rfl ?_; intro K hK
                 refine ow_call Try.func87 rfl rfl (evs_cons (tmI rfl rfl) <| evs_nil) (hfx _) ?_
                 rintro e w ⟨rfl, hk⟩
                 refine ⟨_, rfl, ?_⟩
                 replace hS := hS.kept hk
                 clear hk
                 refine hK _ _ ?_; clear hK K
                 refine wl_v (x_assign ev_c) ?_
                 refine wl_e rfl ?_; intro K hK
                 refine ow_storeA hS 3 rfl ts_32 (tmP rfl rfl) (tmA rfl rfl) rfl rfl rfl ?_
                 clear hS; intro w hS
                 try replace hS := St.nm (M' := [.blk _ _ [_, _, _, _, _, _, _], .blk _ _ [_, _, _, _, _, _, _, _, _, _, _, _, _, _, _, _], .vw _ _, .blk _ _ [_, _, _, _, _, _, _], .vw _ _]) hS rfl
                 refine hK _ _ ?_; clear hK K
                 refine wl_v (x_assign (tmI rfl rfl)) ?_
                 refine wl_nil ?_
                 refine then_n (hK85 _ _ ?_); clear hK85 K85
                 refine wp_ret ?_
                 refine then_r ?_
                 refine ret3 rfl (.tmp rfl (show _ = Value.slice _ _ _ from rfl)) (.cell rfl rfl (load_rowB (cs := [_, _, _, _, _, _, _]) hS.ok 3 rfl Try.underlying32 rfl ts_32 rfl)) (.tmp rfl (show _ = Value.int _ _ from rfl)) ?_
                 first
                   | (right; rw [fin1 (by omega)]; exact ⟨by omega, (by subst hq; rfl), hS.kp⟩)
                   | (right; rw [fin2 (by omega) (by omega) (by omega)]; exact ⟨by omega, rfl, hS.kp⟩)
                   | (right; rw [f3 (by omega) (by omega) (by omega)]; exact ⟨by omega, rfl, hS.kp⟩)
                   | (right; rw [f4 (by omega) (by omega) (by omega) hc6']; exact ⟨by omega, rfl, hS.kp⟩)
                   | (left; exact ⟨L, _, c', f5 (by omega) (by omega) (by omega) hc6', rfl, .inl rfl, rfl, ⟨viewV hS.ok 2 rfl, hfr⟩, hS.kp⟩)
              try (exfalso; first | with_reducible exact absurd hc5 Bool.false_ne_true | with_reducible exact absurd hc5.symm Bool.false_ne_true | (simp only [nrm] at hc5; omega) | (simp at hc5; done))
              all_goals
               try simp only [nrm] at hc5
               refine wp_skip ?_
               refine then_n (hK83 _ _ ?_); clear hK83 K83
               refine wp_seq_k ?_; intro K87 hK87
               refine wp_seq_k ?_; intro K88 hK88
               refine wlit ?_
               refine wl_v (x_move (tmI rfl rfl)) ?_
               refine wl_v (x_eql (tmI rfl rfl) (ev_cN 6)) ?_
               refine wl_v (x_move (tmI rfl rfl)) ?_
               refine wl_v (x_eql (tmI rfl rfl) (ev_cN 41)) ?_
               refine wl_v (x_bneq Try.underlying4 (tmB rfl rfl) (tmB rfl rfl)) ?_
               refine wl_nil ?_
               refine then_n (hK88 _ _ ?_); clear hK88 K88
               refine cnd (tm rfl) (fun hc6 => ?_) (fun hc6 => ?_)
               · try (exfalso; first | with_reducible exact absurd hc6 Bool.false_ne_true | with_reducible exact absurd hc6.symm Bool.false_ne_true | (simp only [nrm] at hc6; omega) | (simp at hc6; done))
                 all_goals
                  try simp only [nrm] at hc6
                  have hc6' : (Z = 6 ∧ pr ≠ 41) ∨ (Z ≠ 6 ∧ pr = 41) := by
                    by_cases q6 : Z = 6 <;> by_cases q41 : pr = 41 <;> first | exact .inl ⟨q6, q41⟩ | exact .inr ⟨q6, q41⟩ | (exfalso; simp [q6, q41] at hc6; try omega)
                  refine wp_seq_k ?_; intro K89 hK89
                  refine wlit ?_
                  refine wl_v (x_build (bc_skipL [.bool false, .int .u64 0, .int .u64 0] <| bc_skipL [.bool false, .int .u64 0, .int .u64 0] <| bc_skip (.int .u8 0) <| bc_nil) (by kernel_rfl)) ?_
                  refine wl_v (x_assign ev_c) ?_
                  refine wl_e rfl ?_; intro K hK
                  refine ow_storeA hS 3 rfl ts_32 (tmP rfl rfl) (tmA rfl rfl) rfl rfl rfl ?_
                  clear hS; intro w hS
                  try replace hS := St.nm (M' := [.blk _ _ [_, _, _, _, _, _, _], .blk _ _ [_, _, _, _, _, _, _, _, _, _, _, _, _, _, _, _], .vw _ _, .blk _ _ [_, _, _, _, _, _, _], .vw _ _]) hS rfl
                  refine hK _ _ ?_; clear hK K
                  refine wl_v (x_assign (ev_cN 21)) ?_
                  refine wl_nil ?_
                  refine then_n (hK89 _ _ ?_); clear hK89 K89
                  refine wp_ret ?_
                  refine then_r ?_
                  refine ret3 rfl (.tmp rfl (show _ = Value.slice _ _ _ from rfl)) (.cell rfl rfl (load_rowB (cs := [_, _, _, _, _, _, _]) hS.ok 3 rfl Try.underlying32 rfl ts_32 rfl)) (.tmp rfl (show _ = Value.int _ _ from rfl)) ?_
                  first
                    | (right; rw [fin1 (by omega)]; exact ⟨by omega, (by subst hq; rfl), hS.kp⟩)
                    | (right; rw [fin2 (by omega) (by omega) (by omega)]; exact ⟨by omega, rfl, hS.kp⟩)
                    | (right; rw [f3 (by omega) (by omega) (by omega)]; exact ⟨by omega, rfl, hS.kp⟩)
                    | (right; rw [f4 (by omega) (by omega) (by omega) hc6']; exact ⟨by omega, rfl, hS.kp⟩)
                    | (left; exact ⟨L, _, c', f5 (by omega) (by omega) (by omega) hc6', rfl, .inl rfl, rfl, ⟨viewV hS.ok 2 rfl, hfr⟩, hS.kp⟩)
               try (exfalso; first | with_reducible exact absurd hc6 Bool.false_ne_true | with_reducible exact absurd hc6.symm Bool.false_ne_true | (simp only [nrm] at hc6; omega) | (simp at hc6; done))
               all_goals
                try simp only [nrm] at hc6
                have hc6' : (Z = 6 ∧ pr = 41) ∨ (Z ≠ 6 ∧ pr ≠ 41) := by
                  by_cases q6 : Z = 6 <;> by_cases q41 : pr = 41 <;> first | exact .inl ⟨q6, q41⟩ | exact .inr ⟨q6, q41⟩ | (exfalso; simp [q6, q41] at hc6; try omega)
                refine wp_skip ?_
                refine then_n (hK87 _ _ ?_); clear hK87 K87
                refine wp_seq_k ?_; intro K91 hK91
                replace hS := hS.pick [3, 0, 2, 4] rfl rfl
                try replace hS := St.nm (M' := [.blk _ _ [_, _, _, _, _, _, _], .blk _ _ [_, _, _, _, _, _, _], .vw _ _, .vw _ _]) hS rfl
                refine rg_startk 1 hS mixed_ ?_
                clear hS; intro w hS
                refine rg_take 0 rfl rfl (by kernel_rfl) (by kernel_rfl) (by kernel_rfl) (want_0) (fun w hok => x_move (tmS rfl rfl)) ?_
                refine rg_take 1 rfl rfl (by kernel_rfl) (by kernel_rfl) (by kernel_rfl) (want_0) (fun w hok => x_loadA (cs := [_, _, _, _, _, _, _]) Try.underlying32 rfl ts_32 (tmP rfl rfl) (rangeB hok 0 rfl rfl)) ?_
                refine rg_take 2 rfl rfl (by kernel_rfl) (by kernel_rfl) (by kernel_rfl) (want_0) (fun w hok => x_assign (tmS rfl rfl)) ?_
                refine rg_step 3 rfl (by kernel_rfl) (want_0) (oks_drop hS 1 rfl) ?_; intro K hK
                refine ow_storeA hS 0 rfl ts_32 (tmP rfl rfl) (tmA rfl rfl) rfl rfl rfl ?_
                clear hS; intro w hS
                try replace hS := St.nm (M' := [.blk _ _ [_, _, _, _, _, _, _], .blk _ _ [_, _, _, _, _, _, _], .vw _ _, .vw _ _]) hS rfl
                refine hK _ _ ?_; clear hK K
                refine rg_take 4 rfl rfl (by kernel_rfl) (by kernel_rfl) (by kernel_rfl) (want_0) (fun w hok => x_assign (ev_cN 0)) ?_
                refine rg_done (oks_drop hS 1 rfl) (by kernel_rfl) ?_
                refine then_n (hK91 _ _ ?_); clear hK91 K91
                refine wp_ret ?_
                refine ret3 rfl (.tmp rfl (show _ = Value.slice _ _ _ from rfl)) (.cell rfl rfl (load_rowB (cs := [_, _, _, _, _, _, _]) hS.ok 0 rfl Try.underlying32 rfl ts_32 rfl)) (.tmp rfl (show _ = Value.int _ _ from rfl)) ?_
                first
                  | (right; rw [fin1 (by omega)]; exact ⟨by omega, (by subst hq; rfl), hS.kp⟩)
                  | (right; rw [fin2 (by omega) (by omega) (by omega)]; exact ⟨by omega, rfl, hS.kp⟩)
                  | (right; rw [f3 (by omega) (by omega) (by omega)]; exact ⟨by omega, rfl, hS.kp⟩)
                  | (right; rw [f4 (by omega) (by omega) (by omega) hc6']; exact ⟨by omega, rfl, hS.kp⟩)
                  | (left; exact ⟨L, _, c', f5 (by omega) (by omega) (by omega) hc6', rfl, .inl rfl, rfl, ⟨viewV hS.ok 2 rfl, hfr⟩, hS.kp⟩)
          have hg17_2' := hg17_2; (try simp only [nrm] at hg17_2'); try (exfalso; first | with_reducible exact absurd hg17_2 Bool.false_ne_true | with_reducible exact absurd hg17_2.symm Bool.false_ne_true | omega | (simp at hg17_2; done))
          all_goals
           refine wl_s rfl (want_n rfl rfl rfl rfl (by rw [hg17_2]; rfl)) ?_
           refine wl_s rfl (want_n rfl rfl rfl rfl (by rw [hg17_2]; rfl)) ?_
           refine wl_v (x_pickF (tmB rfl rfl) hg17_2 ev_c) ?_
           refine wl_nil ?_
           refine then_n (hK79 _ _ ?_); clear hK79 K79
           refine cnd_f (tmB rfl rfl) rfl ?_
           refine wp_skip ?_
           refine then_n (hK78 _ _ ?_); clear hK78 K78
           refine wp_seq_k ?_; intro K93 hK93
           refine wlit ?_
           refine wl_v (x_move (tmS rfl rfl)) ?_
           refine wl_e rfl ?_; intro K hK
           refine ow_call Try.func21 rfl rfl (evs_cons (tmS rfl rfl) <| evs_nil) (hsx _ _ _ (viewV hS.ok 2 rfl)) ?_
           rintro e w ⟨rfl, hk⟩
           refine ⟨_, rfl, ?_⟩
           replace hS := hS.kept hk
           clear hk
           refine hK _ _ ?_; clear hK K
           refine wl_v (x_assign (tmI rfl rfl)) ?_
           refine wl_nil ?_
           refine then_n (hK93 _ _ ?_); clear hK93 K93
           refine wp_seq_k ?_; intro K94 hK94
           refine wp_seq_k ?_; intro K95 hK95
           refine wlit ?_
           refine wl_v (x_move (tmI rfl rfl)) ?_
           refine wl_e rfl ?_; intro K hK
           refine ow_call Try.func87 rfl rfl (evs_cons (tmI rfl rfl) <| evs_nil) (hfx _) ?_
           rintro e w ⟨rfl, hk⟩
           refine ⟨_, rfl, ?_⟩
           replace hS := hS.kept hk
           clear hk
           refine hK _ _ ?_; clear hK K
           refine wl_v (x_neq (tmI rfl rfl) (ev_cN 0)) ?_
           refine wl_nil ?_
           refine then_n (hK95 _ _ ?_); clear hK95 K95
           refine cnd (tm rfl) (fun hc5 => ?_) (fun hc5 => ?_)
           · try (exfalso; first | with_reducible exact absurd hc5 Bool.false_ne_true | with_reducible exact absurd hc5.symm Bool.false_ne_true | (simp only [nrm] at hc5; omega) | (simp at hc5; done))
             all_goals
              try simp only [nrm] at hc5
              refine wp_seq_k ?_; intro K96 hK96
              refine wlit ?_
              refine wl_v (x_build (bc_skipL [.bool false, .int .u64 0, .int .u64 0] <| bc_skipL [.bool false, .int .u64 0, .int .u64 0] <| bc_skip (.int .u8 0) <| bc_nil) (by kernel_rfl)) ?_
              refine wl_v (x_move (tmI rfl rfl)) ?_
              refine wl_e rfl ?_; intro K hK
              refine ow_call Try.func87 rfl rfl (evs_cons (tmI rfl rfl) <| evs_nil) (hfx _) ?_
              rintro e w ⟨rfl, hk⟩
              refine ⟨_, rfl, ?_⟩
              replace hS := hS.kept hk
              clear hk
              refine hK _ _ ?_; clear hK K
              refine wl_v (x_assign ev_c) ?_
              refine wl_e rfl ?_; intro K hK
              refine ow_storeA hS 3 rfl ts_32 (tmP rfl rfl) (tmA rfl rfl) rfl rfl rfl ?_
              clear hS; intro w hS
              try replace hS := St.nm (M' := [.blk _ _ [_, _, _, _, _, _, _], .blk _ _ [_, _, _, _, _, _, _, _, _, _, _, _, _, _, _, _], .vw _ _, .blk _ _ [_, _, _, _, _, _, _], .vw _ _]) hS rfl
              refine hK _ _ ?_; clear hK K
              refine wl_v (x_assign (tmI rfl rfl)) ?_
              refine wl_nil ?_
              refine then_n (hK96 _ _ ?_); clear hK96 K96
              refine wp_ret ?_
              refine then_r ?_
              refine ret3 rfl (.tmp rfl (show _ = Value.slice _ _ _ from rfl)) (.cell rfl rfl (load_rowB (cs := [_, _, _, _, _, _, _]) hS.ok 3 rfl Try.underlying32 rfl ts_32 rfl)) (.tmp rfl (show _ = Value.int _ _ from rfl)) ?_
              first
                | (right; rw [fin1 (by omega)]; exact ⟨by omega, (by subst hq; rfl), hS.kp⟩)
                | (right; rw [fin2 (by omega) (by omega) (by omega)]; exact ⟨by omega, rfl, hS.kp⟩)
                | (right; rw [f3 (by omega) (by omega) (by omega)]; exact ⟨by omega, rfl, hS.kp⟩)
                | (right; rw [f4 (by omega) (by omega) (by omega) hc6']; exact ⟨by omega, rfl, hS.kp⟩)
                | (left; exact ⟨L, _, c', f5 (by omega) (by omega) (by omega) hc6', rfl, .inl rfl, rfl, ⟨viewV hS.ok 2 rfl, hfr⟩, hS.kp⟩)
           try (exfalso; first | with_reducible exact absurd hc5 Bool.false_ne_true | with_reducible exact absurd hc5.symm Bool.false_ne_true | (simp only [nrm] at hc5; omega) | (simp at hc5; done))
           all_goals
            try simp only [nrm] at hc5
            refine wp_skip ?_
            refine then_n (hK94 _ _ ?_); clear hK94 K94
            refine wp_seq_k ?_; intro K98 hK98
            refine wp_seq_k ?_; intro K99 hK99
            refine wlit ?_
            refine wl_v (x_move (tmI rfl rfl)) ?_
            refine wl_v (x_eql (tmI rfl rfl) (ev_cN 6)) ?_
            refine wl_v (x_move (tmI rfl rfl)) ?_
            refine wl_v (x_eql (tmI rfl rfl) (ev_cN 41)) ?_
            refine wl_v (x_bneq Try.underlying4 (tmB rfl rfl) (tmB rfl rfl)) ?_
            refine wl_nil ?_
            refine then_n (hK99 _ _ ?_); clear hK99 K99
            refine cnd (tm rfl) (fun hc6 => ?_) (fun hc6 => ?_)
            · try (exfalso; first | with_reducible exact absurd hc6 Bool.false_ne_true | with_reducible exact absurd hc6.symm Bool.false_ne_true | (simp only [nrm] at hc6; omega) | (simp at hc6; done))
              all_goals
               try simp only [nrm] at hc6
               have hc6' : (Z = 6 ∧ pr ≠ 41) ∨ (Z ≠ 6 ∧ pr = 41) := by
                 by_cases q6 : Z = 6 <;> by_cases q41 : pr = 41 <;> first | exact .inl ⟨q6, q41⟩ | exact .inr ⟨q6, q41⟩ | (exfalso; simp [q6, q41] at hc6; try omega)
               refine wp_seq_k ?_; intro K100 hK100
               refine wlit ?_
               refine wl_v (x_build (bc_skipL [.bool false, .int .u64 0, .int .u64 0] <| bc_skipL [.bool false, .int .u64 0, .int .u64 0] <| bc_skip (.int .u8 0) <| bc_nil) (by kernel_rfl)) ?_
               refine wl_v (x_assign ev_c) ?_
               refine wl_e rfl ?_; intro K hK
               refine ow_storeA hS 3 rfl ts_32 (tmP rfl rfl) (tmA rfl rfl) rfl rfl rfl ?_
               clear hS; intro w hS
               try replace hS := St.nm (M' := [.blk _ _ [_, _, _, _, _, _, _], .blk _ _ [_, _, _, _, _, _, _, _, _, _, _, _, _, _, _, _], .vw _ _, .blk _ _ [_, _, _, _, _, _, _], .vw _ _]) hS rfl
               refine hK _ _ ?_; clear hK K
               refine wl_v (x_assign (ev_cN 21)) ?_
               refine wl_nil ?_
               refine then_n (hK100 _ _ ?_); clear hK100 K100
               refine wp_ret ?_
               refine then_r ?_
               refine ret3 rfl (.tmp rfl (show _ = Value.slice _ _ _ from rfl)) (.cell rfl rfl (load_rowB (cs := [_, _, _, _, _, _, _]) hS.ok 3 rfl Try.underlying32 rfl ts_32 rfl)) (.tmp rfl (show _ = Value.int _ _ from rfl)) ?_
               first
                 | (right; rw [fin1 (by omega)]; exact ⟨by omega, (by subst hq; rfl), hS.kp⟩)
                 | (right; rw [fin2 (by omega) (by omega) (by omega)]; exact ⟨by omega, rfl, hS.kp⟩)
                 | (right; rw [f3 (by omega) (by omega) (by omega)]; exact ⟨by omega, rfl, hS.kp⟩)
                 | (right; rw [f4 (by omega) (by omega) (by omega) hc6']; exact ⟨by omega, rfl, hS.kp⟩)
                 | (left; exact ⟨L, _, c', f5 (by omega) (by omega) (by omega) hc6', rfl, .inl rfl, rfl, ⟨viewV hS.ok 2 rfl, hfr⟩, hS.kp⟩)
            try (exfalso; first | with_reducible exact absurd hc6 Bool.false_ne_true | with_reducible exact absurd hc6.symm Bool.false_ne_true | (simp only [nrm] at hc6; omega) | (simp at hc6; done))
            all_goals
             try simp only [nrm] at hc6
             have hc6' : (Z = 6 ∧ pr = 41) ∨ (Z ≠ 6 ∧ pr ≠ 41) := by
               by_cases q6 : Z = 6 <;> by_cases q41 : pr = 41 <;> first | exact .inl ⟨q6, q41⟩ | exact .inr ⟨q6, q41⟩ | (exfalso; simp [q6, q41] at hc6; try omega)
             refine wp_skip ?_
             refine then_n (hK98 _ _ ?_); clear hK98 K98
             refine wp_seq_k ?_; intro K102 hK102
             replace hS := hS.pick [3, 0, 2, 4] rfl rfl
             try replace hS := St.nm (M' := [.blk _ _ [_, _, _, _, _, _, _], .blk _ _ [_, _, _, _, _, _, _], .vw _ _, .vw _ _]) hS rfl
             refine rg_startk 1 hS mixed_ ?_
             clear hS; intro w hS
             refine rg_take 0 rfl rfl (by kernel_rfl) (by kernel_rfl) (by kernel_rfl) (want_0) (fun w hok => x_move (tmS rfl rfl)) ?_
             refine rg_take 1 rfl rfl (by kernel_rfl) (by kernel_rfl) (by kernel_rfl) (want_0) (fun w hok => x_loadA (cs := [_, _, _, _, _, _, _]) Try.underlying32 rfl ts_32 (tmP rfl rfl) (rangeB hok 0 rfl rfl)) ?_
             refine rg_take 2 rfl rfl (by kernel_rfl) (by kernel_rfl) (by kernel_rfl) (want_0) (fun w hok => x_assign (tmS rfl rfl)) ?_
             refine rg_step 3 rfl (by kernel_rfl) (want_0) (oks_drop hS 1 rfl) ?_; intro K hK
             refine ow_storeA hS 0 rfl ts_32 (tmP rfl rfl) (tmA rfl rfl) rfl rfl rfl ?_
             clear hS; intro w hS
             try replace hS := St.nm (M' := [.blk _ _ [_, _, _, _, _, _, _], .blk _ _ [_, _, _, _, _, _, _], .vw _ _, .vw _ _]) hS rfl
             refine hK _ _ ?_; clear hK K
             refine rg_take 4 rfl rfl (by kernel_rfl) (by kernel_rfl) (by kernel_rfl) (want_0) (fun w hok => x_assign (ev_cN 0)) ?_
             refine rg_done (oks_drop hS 1 rfl) (by kernel_rfl) ?_
             refine then_n (hK102 _ _ ?_); clear hK102 K102
             refine wp_ret ?_
             refine ret3 rfl (.tmp rfl (show _ = Value.slice _ _ _ from rfl)) (.cell rfl rfl (load_rowB (cs := [_, _, _, _, _, _, _]) hS.ok 0 rfl Try.underlying32 rfl ts_32 rfl)) (.tmp rfl (show _ = Value.int _ _ from rfl)) ?_
             first
               | (right; rw [fin1 (by omega)]; exact ⟨by omega, (by subst hq; rfl), hS.kp⟩)
               | (right; rw [fin2 (by omega) (by omega) (by omega)]; exact ⟨by omega, rfl, hS.kp⟩)
               | (right; rw [f3 (by omega) (by omega) (by omega)]; exact ⟨by omega, rfl, hS.kp⟩)
               | (right; rw [f4 (by omega) (by omega) (by omega) hc6']; exact ⟨by omega, rfl, hS.kp⟩)
               | (left; exact ⟨L, _, c', f5 (by omega) (by omega) (by omega) hc6', rfl, .inl rfl, rfl, ⟨viewV hS.ok 2 rfl, hfr⟩, hS.kp⟩)
    have hg13_2' := hg13_2; (try simp only [nrm] at hg13_2'); try (exfalso; first | with_reducible exact absurd hg13_2 Bool.false_ne_true | with_reducible exact absurd hg13_2.symm Bool.false_ne_true | omega | (simp at hg13_2; done))
    all_goals
     refine wl_s rfl (want_n rfl rfl rfl rfl (by rw [hg13_2]; rfl)) ?_
     refine wl_s rfl (want_n rfl rfl rfl rfl (by rw [hg13_2]; rfl)) ?_
     refine wl_s rfl (want_n rfl rfl rfl rfl (by rw [hg13_2]; rfl)) ?_
     refine wl_s rfl (want_u rfl rfl rfl rfl) ?_
     refine wl_s rfl (want_u rfl rfl rfl rfl) ?_
     refine wl_s rfl (want_u rfl rfl rfl rfl) ?_
     refine wl_s rfl (want_n rfl rfl rfl rfl (by rw [hg13_2]; rfl)) ?_
     refine wl_v (x_pickF (tmB rfl rfl) hg13_2 ev_c) ?_
     refine wl_nil ?_
     refine then_n (hK13 _ _ ?_); clear hK13 K13
     refine cnd_f (tmB rfl rfl) rfl ?_
     refine wp_skip ?_
     refine then_n (hK9 _ _ ?_); clear hK9 K9
     refine wp_seq_k ?_; intro K104 hK104
     refine wp_seq_k ?_; intro K105 hK105
     first
       | have hq : e9 = 21 := q1 (by omega) hg13_5
       | have hq : e9 = 21 := q2 (by omega) (by omega)
       | have hq : e9 = er := q3 (by omega)
       | have hq : e9 = er := q4 (by omega) hg13_5 (by omega)
     refine wlit ?_
     refine wl_v (x_move (tmI rfl rfl)) ?_
     refine wl_v (x_neq (tmI rfl rfl) (ev_cN 0)) ?_
     refine wl_nil ?_
     refine then_n (hK105 _ _ ?_); clear hK105 K105
     refine cnd (tm rfl) (fun hc3 => ?_) (fun hc3 => ?_)
     · try (exfalso; first | with_reducible exact absurd hc3 Bool.false_ne_true | with_reducible exact absurd hc3.symm Bool.false_ne_true | (simp only [nrm] at hc3; omega) | (simp at hc3; done))
       all_goals
        try simp only [nrm] at hc3
        refine wp_seq_k ?_; intro K106 hK106
        refine wlit ?_
        refine wl_v (x_build (bc_skipL [.bool false, .int .u64 0, .int .u64 0] <| bc_skipL [.bool false, .int .u64 0, .int .u64 0] <| bc_skip (.int .u8 0) <| bc_nil) (by kernel_rfl)) ?_
        refine wl_v (x_move (tmI rfl rfl)) ?_
        refine wl_v (x_assign ev_c) ?_
        refine wl_e rfl ?_; intro K hK
        refine ow_storeA hS 3 rfl ts_32 (tmP rfl rfl) (tmA rfl rfl) rfl rfl rfl ?_
        clear hS; intro w hS
        try replace hS := St.nm (M' := [.blk _ _ [_, _, _, _, _, _, _], .blk _ _ [_, _, _, _, _, _, _, _, _, _, _, _, _, _, _, _], .vw _ _, .blk _ _ [_, _, _, _, _, _, _], .vw _ _]) hS rfl
        refine hK _ _ ?_; clear hK K
        refine wl_v (x_assign (tmI rfl rfl)) ?_
        refine wl_nil ?_
        refine then_n (hK106 _ _ ?_); clear hK106 K106
        refine wp_ret ?_
        refine then_r ?_
        refine ret3 rfl (.tmp rfl (show _ = Value.slice _ _ _ from rfl)) (.cell rfl rfl (load_rowB (cs := [_, _, _, _, _, _, _]) hS.ok 3 rfl Try.underlying32 rfl ts_32 rfl)) (.tmp rfl (show _ = Value.int _ _ from rfl)) ?_
        first
          | (right; rw [fin1 (by omega)]; exact ⟨by omega, (by subst hq; rfl), hS.kp⟩)
          | (right; rw [fin2 (by omega) (by omega) (by omega)]; exact ⟨by omega, rfl, hS.kp⟩)
          | (right; rw [f3 (by omega) (by omega) (by omega)]; exact ⟨by omega, rfl, hS.kp⟩)
          | (right; rw [f4 (by omega) (by omega) (by omega) hc6']; exact ⟨by omega, rfl, hS.kp⟩)
          | (left; exact ⟨L, _, c', f5 (by omega) (by omega) (by omega) hc6', rfl, .inl rfl, rfl, ⟨viewV hS.ok 2 rfl, hfr⟩, hS.kp⟩)
     try (exfalso; first | with_reducible exact absurd hc3 Bool.false_ne_true | with_reducible exact absurd hc3.symm Bool.false_ne_true | (simp only [nrm] at hc3; omega) | (simp at hc3; done))
     all_goals
      try simp only [nrm] at hc3
      refine wp_skip ?_
      refine then_n (hK104 _ _ ?_); clear hK104 K104
      refine wp_seq_k ?_; intro K108 hK108
      refine wp_seq_k ?_; intro K109 hK109
      refine wlit ?_
      refine wl_v (x_move (tmI rfl rfl)) ?_
      refine wl_v (x_neq (tmI rfl rfl) (ev_cN 4)) ?_
      refine wl_v (x_move (tmB rfl rfl)) ?_
      refine gs_wl (tm (t := 78) rfl) (fun hg17_2 => ?_) (fun hg17_2 => ?_)
      · have hg17_2' := hg17_2; (try simp only [nrm] at hg17_2'); try (exfalso; first | with_reducible exact absurd hg17_2 Bool.false_ne_true | with_reducible exact absurd hg17_2.symm Bool.false_ne_true | omega | (simp at hg17_2; done))
        all_goals
         refine wl_gv (want_y rfl rfl rfl rfl (by rw [hg17_2]; rfl)) (x_move (tmI rfl rfl)) ?_
         refine wl_gv (want_y rfl rfl rfl rfl (by rw [hg17_2]; rfl)) (x_neq (tmI rfl rfl) (ev_cN 41)) ?_
         refine wl_v (x_pickT (tmB rfl rfl) hg17_2 (tmB rfl rfl)) ?_
         refine wl_nil ?_
         refine then_n (hK109 _ _ ?_); clear hK109 K109
         refine cnd (tm rfl) (fun hc4 => ?_) (fun hc4 => ?_)
         · try (exfalso; first | with_reducible exact absurd hc4 Bool.false_ne_true | with_reducible exact absurd hc4.symm Bool.false_ne_true | (simp only [nrm] at hc4; omega) | (simp at hc4; done))
           all_goals
            try simp only [nrm] at hc4
            refine wp_seq_k ?_; intro K110 hK110
            refine wlit ?_
            refine wl_v (x_build (bc_skipL [.bool false, .int .u64 0, .int .u64 0] <| bc_skipL [.bool false, .int .u64 0, .int .u64 0] <| bc_skip (.int .u8 0) <| bc_nil) (by kernel_rfl)) ?_
            refine wl_v (x_assign ev_c) ?_
            refine wl_e rfl ?_; intro K hK
            refine ow_storeA hS 3 rfl ts_32 (tmP rfl rfl) (tmA rfl rfl) rfl rfl rfl ?_
            clear hS; intro w hS
            try replace hS := St.nm (M' := [.blk _ _ [_, _, _, _, _, _, _], .blk _ _ [_, _, _, _, _, _, _, _, _, _, _, _, _, _, _, _], .vw _ _, .blk _ _ [_, _, _, _, _, _, _], .vw _ _]) hS rfl
            refine hK _ _ ?_; clear hK K
            refine wl_v (x_assign (ev_cN 6)) ?_
            refine wl_nil ?_
            refine then_n (hK110 _ _ ?_); clear hK110 K110
            refine wp_ret ?_
            refine then_r ?_
            refine ret3 rfl (.tmp rfl (show _ = Value.slice _ _ _ from rfl)) (.cell rfl rfl (load_rowB (cs := [_, _, _, _, _, _, _]) hS.ok 3 rfl Try.underlying32 rfl ts_32 rfl)) (.tmp rfl (show _ = Value.int _ _ from rfl)) ?_
            first
              | (right; rw [fin1 (by omega)]; exact ⟨by omega, (by subst hq; rfl), hS.kp⟩)
              | (right; rw [fin2 (by omega) (by omega) (by omega)]; exact ⟨by omega, rfl, hS.kp⟩)
              | (right; rw [f3 (by omega) (by omega) (by omega)]; exact ⟨by omega, rfl, hS.kp⟩)
              | (right; rw [f4 (by omega) (by omega) (by omega) hc6']; exact ⟨by omega, rfl, hS.kp⟩)
              | (left; exact ⟨L, _, c', f5 (by omega) (by omega) (by omega) hc6', rfl, .inl rfl, rfl, ⟨viewV hS.ok 2 rfl, hfr⟩, hS.kp⟩)
         try (exfalso; first | with_reducible exact absurd hc4 Bool.false_ne_true | with_reducible exact absurd hc4.symm Bool.false_ne_true | (simp only [nrm] at hc4; omega) | (simp at hc4; done))
         all_goals
          try simp only [nrm] at hc4
          refine wp_skip ?_
          refine then_n (hK108 _ _ ?_); clear hK108 K108
          refine wp_seq_k ?_; intro K112 hK112
          refine wlit ?_
          refine wl_v (x_move (tmS rfl rfl)) ?_
          refine wl_e rfl ?_; intro K hK
          refine ow_call Try.func21 rfl rfl (evs_cons (tmS rfl rfl) <| evs_nil) (hsx _ _ _ (viewV hS.ok 2 rfl)) ?_
          rintro e w ⟨rfl, hk⟩
          refine ⟨_, rfl, ?_⟩
          replace hS := hS.kept hk
          clear hk
          refine hK _ _ ?_; clear hK K
          refine wl_v (x_assign (tmI rfl rfl)) ?_
          refine wl_nil ?_
          refine then_n (hK112 _ _ ?_); clear hK112 K112
          refine wp_seq_k ?_; intro K113 hK113
          refine wp_seq_k ?_; intro K114 hK114
          refine wlit ?_
          refine wl_v (x_move (tmI rfl rfl)) ?_
          refine wl_e rfl ?_; intro K hK
          refine ow_call Try.func87 rfl rfl (evs_cons (tmI rfl rfl) <| evs_nil) (hfx _) ?_
          rintro e w ⟨rfl, hk⟩
          refine ⟨_, rfl, ?_⟩
          replace hS := hS.kept hk
          clear hk
          refine hK _ _ ?_; clear hK K
          refine wl_v (x_neq (tmI rfl rfl) (ev_cN 0)) ?_
          refine wl_nil ?_
          refine then_n (hK114 _ _ ?_); clear hK114 K114
          refine cnd (tm rfl) (fun hc5 => ?_) (fun hc5 => ?_)
          · try (exfalso; first | with_reducible exact absurd hc5 Bool.false_ne_true | with_reducible exact absurd hc5.symm Bool.false_ne_true | (simp only [nrm] at hc5; omega) | (simp at hc5; done))
            all_goals
             try simp only [nrm] at hc5
             refine wp_seq_k ?_; intro K115 hK115
             refine wlit ?_
             refine wl_v (x_build (bc_skipL [.bool false, .int .u64 0, .int .u64 0] <| bc_skipL [.bool false, .int .u64 0, .int .u64 0] <| bc_skip (.int .u8 0) <| bc_nil) (by kernel_rfl)) ?_
             refine wl_v (x_move (tmI rfl rfl)) ?_
             refine wl_e rfl ?_; intro K hK
             refine ow_call Try.func87 rfl rfl (evs_cons (tmI rfl rfl) <| evs_nil) (hfx _) ?_
             rintro e w ⟨rfl, hk⟩
             refine ⟨_, rfl, ?_⟩
             replace hS := hS.kept hk
             clear hk
             refine hK _ _ ?_; clear hK K
             refine wl_v (x_assign ev_c) ?_
             refine wl_e rfl ?_; intro K hK
             refine ow_storeA hS 3 rfl ts_32 (tmP rfl rfl) (tmA rfl rfl) rfl rfl rfl ?_
             clear hS; intro w hS
             try replace hS := St.nm (M' := [.blk _ _ [_, _, _, _, _, _, _], .blk _ _ [_, _, _, _, _, _, _, _, _, _, _, _, _, _, _, _], .vw _ _, .blk _ _ [_, _, _, _, _, _, _], .vw _ _]) hS rfl
             refine hK _ _ ?_; clear hK K
             refine wl_v (x_assign (tmI rfl rfl)) ?_
             refine wl_nil ?_
             refine then_n (hK115 _ _ ?_); clear hK115 K115
             refine wp_ret ?_
             refine then_r ?_
             refine ret3 rfl (.tmp rfl (show _ = Value.slice _ _ _ from rfl)) (.cell rfl rfl (load_rowB (cs := [_, _, _, _, _, _, _]) hS.ok 3 rfl Try.underlying32 rfl ts_32 rfl)) (.tmp rfl (show _ = Value.int _ _ from rfl)) ?_
             first
               | (right; rw [fin1 (by omega)]; exact ⟨by omega, (by subst hq; rfl), hS.kp⟩)
               | (right; rw [fin2 (by omega) (by omega) (by omega)]; exact ⟨by omega, rfl, hS.kp⟩)
               | (right; rw [f3 (by omega) (by omega) (by omega)]; exact ⟨by omega, rfl, hS.kp⟩)
               | (right; rw [f4 (by omega) (by omega) (by omega) hc6']; exact ⟨by omega, rfl, hS.kp⟩)
               | (left; exact ⟨L, _, c', f5 (by omega) (by omega) (by omega) hc6', rfl, .inl rfl, rfl, ⟨viewV hS.ok 2 rfl, hfr⟩, hS.kp⟩)
          try (exfalso; first | with_reducible exact absurd hc5 Bool.false_ne_true | with_reducible exact absurd hc5.symm Bool.false_ne_true | (simp only [nrm] at hc5; omega) | (simp at hc5; done))
          all_goals
           try simp only [nrm] at hc5
           refine wp_skip ?_
           refine then_n (hK113 _ _ ?_); clear hK113 K113
           refine wp_seq_k ?_; intro K117 hK117
           refine wp_seq_k ?_; intro K118 hK118
           refine wlit ?_
           refine wl_v (x_move (tmI rfl rfl)) ?_
           refine wl_v (x_eql (tmI rfl rfl) (ev_cN 6)) ?_
           refine wl_v (x_move (tmI rfl rfl)) ?_
           refine wl_v (x_eql (tmI rfl rfl) (ev_cN 41)) ?_
           refine wl_v (x_bneq Try.underlying4 (tmB rfl rfl) (tmB rfl rfl)) ?_
           refine wl_nil ?_
           refine then_n (hK118 _ _ ?_); clear hK118 K118
           refine cnd (tm rfl) (fun hc6 => ?_) (fun hc6 => ?_)
           · try (exfalso; first | with_reducible exact absurd hc6 Bool.false_ne_true | with_reducible exact absurd hc6.symm Bool.false_ne_true | (simp only [nrm] at hc6; omega) | (simp at hc6; done))
             all_goals
              try simp only [nrm] at hc6
              have hc6' : (Z = 6 ∧ pr ≠ 41) ∨ (Z ≠ 6 ∧ pr = 41) := by
                by_cases q6 : Z = 6 <;> by_cases q41 : pr = 41 <;> first | exact .inl ⟨q6, q41⟩ | exact .inr ⟨q6, q41⟩ | (exfalso; simp [q6, q41] at hc6; try omega)
              refine wp_seq_k ?_; intro K119 hK119
              refine wlit ?_
              refine wl_v (x_build (bc_skipL [.bool false, .int .u64 0, .int .u64 0] <| bc_skipL [.bool false, .int .u64 0, .int .u64 0] <| bc_skip (.int .u8 0) <| bc_nil) (by kernel_rfl)) ?_
              refine wl_v (x_assign ev_c) ?_
              refine wl_e rfl ?_; intro K hK
              refine ow_storeA hS 3 rfl ts_32 (tmP rfl rfl) (tmA rfl rfl) rfl rfl rfl ?_
              clear hS; intro w hS
              try replace hS := St.nm (M' := [.blk _ _ [_, _, _, _, _, _, _], .blk _ _ [_, _, _, _, _, _, _, _, _, _, _, _, _, _, _, _], .vw _ _, .blk _ _ [_, _, _, _, _, _, _], .vw _ _]) hS rfl
              refine hK _ _ ?_; clear hK K
              refine wl_v (x_assign (ev_cN 21)) ?_
              refine wl_nil ?_
              refine then_n (hK119 _ _ ?_); clear hK119 K119
              refine wp_ret ?_
              refine then_r ?_
              refine ret3 rfl (.tmp rfl (show _ = Value.slice _ _ _ from rfl)) (.cell rfl rfl (load_rowB (cs := [_, _, _, _, _, _, _]) hS.ok 3 rfl Try.underlying32 rfl ts_32 rfl)) (.tmp rfl (show _ = Value.int _ _ from rfl)) ?_
              first
                | (right; rw [fin1 (by omega)]; exact ⟨by omega, (by subst hq; rfl), hS.kp⟩)
                | (right; rw [fin2 (by omega) (by omega) (by omega)]; exact ⟨by omega, rfl, hS.kp⟩)
                | (right; rw [f3 (by omega) (by omega) (by omega)]; exact ⟨by omega, rfl, hS.kp⟩)
                | (right; rw [f4 (by omega) (by omega) (by omega) hc6']; exact ⟨by omega, rfl, hS.kp⟩)
                | (left; exact ⟨L, _, c', f5 (by omega) (by omega) (by omega) hc6', rfl, .inl rfl, rfl, ⟨viewV hS.ok 2 rfl, hfr⟩, hS.kp⟩)
           try (exfalso; first | with_reducible exact absurd hc6 Bool.false_ne_true | with_reducible exact absurd hc6.symm Bool.false_ne_true | (simp only [nrm] at hc6; omega) | (simp at hc6; done))
           all_goals
            try simp only [nrm] at hc6
            have hc6' : (Z = 6 ∧ pr = 41) ∨ (Z ≠ 6 ∧ pr ≠ 41) := by
              by_cases q6 : Z = 6 <;> by_cases q41 : pr = 41 <;> first | exact .inl ⟨q6, q41⟩ | exact .inr ⟨q6, q41⟩ | (exfalso; simp [q6, q41] at hc6; try omega)
            refine wp_skip ?_
            refine then_n (hK117 _ _ ?_); clear hK117 K117
            refine wp_seq_k ?_; intro K121 hK121
            replace hS := hS.pick [3, 0, 2, 4] rfl rfl
            try replace hS := St.nm (M' := [.blk _ _ [_, _, _, _, _, _, _], .blk _ _ [_, _, _, _, _, _, _], .vw _ _, .vw _ _]) hS rfl
            refine rg_startk 1 hS mixed_ ?_
            clear hS; intro w hS
            refine rg_take 0 rfl rfl (by kernel_rfl) (by kernel_rfl) (by kernel_rfl) (want_0) (fun w hok => x_move (tmS rfl rfl)) ?_
            refine rg_take 1 rfl rfl (by kernel_rfl) (by kernel_rfl) (by kernel_rfl) (want_0) (fun w hok => x_loadA (cs := [_, _, _, _, _, _, _]) Try.underlying32 rfl ts_32 (tmP rfl rfl) (rangeB hok 0 rfl rfl)) ?_
            refine rg_take 2 rfl rfl (by kernel_rfl) (by kernel_rfl) (by kernel_rfl) (want_0) (fun w hok => x_assign (tmS rfl rfl)) ?_
            refine rg_step 3 rfl (by kernel_rfl) (want_0) (oks_drop hS 1 rfl) ?_; intro K hK
            refine ow_storeA hS 0 rfl ts_32 (tmP rfl rfl) (tmA rfl rfl) rfl rfl rfl ?_
            clear hS; intro w hS
            try replace hS := St.nm (M' := [.blk _ _ [_, _, _, _, _, _, _], .blk _ _ [_, _, _, _, _, _, _], .vw _ _, .vw _ _]) hS rfl
            refine hK _ _ ?_; clear hK K
            refine rg_take 4 rfl rfl (by kernel_rfl) (by kernel_rfl) (by kernel_rfl) (want_0) (fun w hok => x_assign (ev_cN 0)) ?_
            refine rg_done (oks_drop hS 1 rfl) (by kernel_rfl) ?_
            refine then_n (hK121 _ _ ?_); clear hK121 K121
            refine wp_ret ?_
            refine ret3 rfl (.tmp rfl (show _ = Value.slice _ _ _ from rfl)) (.cell rfl rfl (load_rowB (cs := [_, _, _, _, _, _, _]) hS.ok 0 rfl Try.underlying32 rfl ts_32 rfl)) (.tmp rfl (show _ = Value.int _ _ from rfl)) ?_
            first
              | (right; rw [fin1 (by omega)]; exact ⟨by omega, (by subst hq; rfl), hS.kp⟩)
              | (right; rw [fin2 (by omega) (by omega) (by omega)]; exact ⟨by omega, rfl, hS.kp⟩)
              | (right; rw [f3 (by omega) (by omega) (by omega)]; exact ⟨by omega, rfl, hS.kp⟩)
              | (right; rw [f4 (by omega) (by omega) (by omega) hc6']; exact ⟨by omega, rfl, hS.kp⟩)
              | (left; exact ⟨L, _, c', f5 (by omega) (by omega) (by omega) hc6', rfl, .inl rfl, rfl, ⟨viewV hS.ok 2 rfl, hfr⟩, hS.kp⟩)
      have hg17_2' := hg17_2; (try simp only [nrm] at hg17_2'); try (exfalso; first | with_reducible exact absurd hg17_2 Bool.false_ne_true | with_reducible exact absurd hg17_2.symm Bool.false_ne_true | omega | (simp at hg17_2; done))
      all_goals
       refine wl_s rfl (want_n rfl rfl rfl rfl (by rw [hg17_2]; rfl)) ?_
       refine wl_s rfl (want_n rfl rfl rfl rfl (by rw [hg17_2]; rfl)) ?_
       refine wl_v (x_pickF (tmB rfl rfl) hg17_2 ev_c) ?_
       refine wl_nil ?_
       refine then_n (hK109 _ _ ?_); clear hK109 K109
       refine cnd_f (tmB rfl rfl) rfl ?_
       refine wp_skip ?_
       refine then_n (hK108 _ _ ?_); clear hK108 K108
       refine wp_seq_k ?_; intro K123 hK123
       refine wlit ?_
       refine wl_v (x_move (tmS rfl rfl)) ?_
       refine wl_e rfl ?_; intro K hK
       refine ow_call Try.func21 rfl rfl (evs_cons (tmS rfl rfl) <| evs_nil) (hsx _ _ _ (viewV hS.ok 2 rfl)) ?_
       rintro e w ⟨rfl, hk⟩
       refine ⟨_, rfl, ?_⟩
       replace hS := hS.kept hk
       clear hk
       refine hK _ _ ?_; clear hK K
       refine wl_v (x_assign (tmI rfl rfl)) ?_
       refine wl_nil ?_
       refine then_n (hK123 _ _ ?_); clear hK123 K123
       refine wp_seq_k ?_; intro K124 hK124
       refine wp_seq_k ?_; intro K125 hK125
       refine wlit ?_
       refine wl_v (x_move (tmI rfl rfl)) ?_
       refine wl_e rfl ?_; intro K hK
       refine ow_call Try.func87 rfl rfl (evs_cons (tmI rfl rfl) <| evs_nil) (hfx _) ?_
       rintro e w ⟨rfl, hk⟩
       refine ⟨_, rfl, ?_⟩
       replace hS := hS.kept hk
       clear hk
       refine hK _ _ ?_; clear hK K
       refine wl_v (x_neq (tmI rfl rfl) (ev_cN 0)) ?_
       refine wl_nil ?_
       refine then_n (hK125 _ _ ?_); clear hK125 K125
       refine cnd (tm rfl) (fun hc5 => ?_) (fun hc5 => ?_)
       · try (exfalso; first | with_reducible exact absurd hc5 Bool.false_ne_true | with_reducible exact absurd hc5.symm Bool.false_ne_true | (simp only [nrm] at hc5; omega) | (simp at hc5; done))
         all_goals
          try simp only [nrm] at hc5
          refine wp_seq_k ?_; intro K126 hK126
          refine wlit ?_
          refine wl_v (x_build (bc_skipL [.bool false, .int .u64 0, .int .u64 0] <| bc_skipL [.bool false, .int .u64 0, .int .u64 0] <| bc_skip (.int .u8 0) <| bc_nil) (by kernel_rfl)) ?_
          refine wl_v (x_move (tmI rfl rfl)) ?_
          refine wl_e rfl ?_; intro K hK
          refine ow_call Try.func87 rfl rfl (evs_cons (tmI rfl rfl) <| evs_nil) (hfx _) ?_
          rintro e w ⟨rfl, hk⟩
          refine ⟨_, rfl, ?_⟩
          replace hS := hS.kept hk
          clear hk
          refine hK _ _ ?_; clear hK K
          refine wl_v (x_assign ev_c) ?_
          refine wl_e rfl ?_; intro K hK
          refine ow_storeA hS 3 rfl ts_32 (tmP rfl rfl) (tmA rfl rfl) rfl rfl rfl ?_
          clear hS; intro w hS
          try replace hS := St.nm (M' := [.blk _ _ [_, _, _, _, _, _, _], .blk _ _ [_, _, _, _, _, _, _, _, _, _, _, _, _, _, _, _], .vw _ _, .blk _ _ [_, _, _, _, _, _, _], .vw _ _]) hS rfl
          refine hK _ _ ?_; clear hK K
          refine wl_v (x_assign (tmI rfl rfl)) ?_
          refine wl_nil ?_
          refine then_n (hK126 _ _ ?_); clear hK126 K126
          refine wp_ret ?_
          refine then_r ?_
          refine ret3 rfl (.tmp rfl (show _ = Value.slice _ _ _ from rfl)) (.cell rfl rfl (load_rowB (cs := [_, _, _, _, _, _, _]) hS.ok 3 rfl Try.underlying32 rfl ts_32 rfl)) (.tmp rfl (show _ = Value.int _ _ from rfl)) ?_
          first
            | (right; rw [fin1 (by omega)]; exact ⟨by omega, (by subst hq; rfl), hS.kp⟩)
            | (right; rw [fin2 (by omega) (by omega) (by omega)]; exact ⟨by omega, rfl, hS.kp⟩)
            | (right; rw [f3 (by omega) (by omega) (by omega)]; exact ⟨by omega, rfl, hS.kp⟩)
            | (right; rw [f4 (by omega) (by omega) (by omega) hc6']; exact ⟨by omega, rfl, hS.kp⟩)
            | (left; exact ⟨L, _, c', f5 (by omega) (by omega) (by omega) hc6', rfl, .inl rfl, rfl, ⟨viewV hS.ok 2 rfl, hfr⟩, hS.kp⟩)
       try (exfalso; first | with_reducible exact absurd hc5 Bool.false_ne_true | with_reducible exact absurd hc5.symm Bool.false_ne_true | (simp only [nrm] at hc5; omega) | (simp at hc5; done))
       all_goals
        try simp only [nrm] at hc5
        refine wp_skip ?_
        refine then_n (hK124 _ _ ?_); clear hK124 K124
        refine wp_seq_k ?_; intro K128 hK128
        refine wp_seq_k ?_; intro K129 hK129
        refine wlit ?_
        refine wl_v (x_move (tmI rfl rfl)) ?_
        refine wl_v (x_eql (tmI rfl rfl) (ev_cN 6)) ?_
        refine wl_v (x_move (tmI rfl rfl)) ?_
        refine wl_v (x_eql (tmI rfl rfl) (ev_cN 41)) ?_
        refine wl_v (x_bneq Try.underlying4 (tmB rfl rfl) (tmB rfl rfl)) ?_
        refine wl_nil ?_
        refine then_n (hK129 _ _ ?_); clear hK129 K129
        refine cnd (tm rfl) (fun hc6 => ?_) (fun hc6 => ?_)
        · try (exfalso; first | with_reducible exact absurd hc6 Bool.false_ne_true | with_reducible exact absurd hc6.symm Bool.false_ne_true | (simp only [nrm] at hc6; omega) | (simp at hc6; done))
          all_goals
           try simp only [nrm] at hc6
           have hc6' : (Z = 6 ∧ pr ≠ 41) ∨ (Z ≠ 6 ∧ pr = 41) := by
             by_cases q6 : Z = 6 <;> by_cases q41 : pr = 41 <;> first | exact .inl ⟨q6, q41⟩ | exact .inr ⟨q6, q41⟩ | (exfalso; simp [q6, q41] at hc6; try omega)
           refine wp_seq_k ?_; intro K130 hK130
           refine wlit ?_
           refine wl_v (x_build (bc_skipL [.bool false, .int .u64 0, .int .u64 0] <| bc_skipL [.bool false, .int .u64 0, .int .u64 0] <| bc_skip (.int .u8 0) <| bc_nil) (by kernel_rfl)) ?_
           refine wl_v (x_assign ev_c) ?_
           refine wl_e rfl ?_; intro K hK
           refine ow_storeA hS 3 rfl ts_32 (tmP rfl rfl) (tmA rfl rfl) rfl rfl rfl ?_
           clear hS; intro w hS
           try replace hS := St.nm (M' := [.blk _ _ [_, _, _, _, _, _, _], .blk _ _ [_, _, _, _, _, _, _, _, _, _, _, _, _, _, _, _], .vw _ _, .blk _ _ [_, _, _, _, _, _, _], .vw _ _]) hS rfl
           refine hK _ _ ?_; clear hK K
           refine wl_v (x_assign (ev_cN 21)) ?_
           refine wl_nil ?_
           refine then_n (hK130 _ _ ?_); clear hK130 K130
           refine wp_ret ?_
           refine then_r ?_
           refine ret3 rfl (.tmp rfl (show _ = Value.slice _ _ _ from rfl)) (.cell rfl rfl (load_rowB (cs := [_, _, _, _, _, _, _]) hS.ok 3 rfl Try.underlying32 rfl ts_32 rfl)) (.tmp rfl (show _ = Value.int _ _ from rfl)) ?_
           first
             | (right; rw [fin1 (by omega)]; exact ⟨by omega, (by subst hq; rfl), hS.kp⟩)
             | (right; rw [fin2 (by omega) (by omega) (by omega)]; exact ⟨by omega, rfl, hS.kp⟩)
             | (right; rw [f3 (by omega) (by omega) (by omega)]; exact ⟨by omega, rfl, hS.kp⟩)
             | (right; rw [f4 (by omega) (by omega) (by omega) hc6']; exact ⟨by omega, rfl, hS.kp⟩)
             | (left; exact ⟨L, _, c', f5 (by omega) (by omega) (by omega) hc6', rfl, .inl rfl, rfl, ⟨viewV hS.ok 2 rfl, hfr⟩, hS.kp⟩)
        try (exfalso; first | with_reducible exact absurd hc6 Bool.false_ne_true | with_reducible exact absurd hc6.symm Bool.false_ne_true | (simp only [nrm] at hc6; omega) | (simp at hc6; done))
        all_goals
         try simp only [nrm] at hc6
         have hc6' : (Z = 6 ∧ pr = 41) ∨ (Z ≠ 6 ∧ pr ≠ 41) := by
           by_cases q6 : Z = 6 <;> by_cases q41 : pr = 41 <;> first | exact .inl ⟨q6, q41⟩ | exact .inr ⟨q6, q41⟩ | (exfalso; simp [q6, q41] at hc6; try omega)
         refine wp_skip ?_
         refine then_n (hK128 _ _ ?_); clear hK128 K128
         refine wp_seq_k ?_; intro K132 hK132
         replace hS := hS.pick [3, 0, 2, 4] rfl rfl
         try replace hS := St.nm (M' := [.blk _ _ [_, _, _, _, _, _, _], .blk _ _ [_, _, _, _, _, _, _], .vw _ _, .vw _ _]) hS rfl
         refine rg_startk 1 hS mixed_ ?_
         clear hS; intro w hS
         refine rg_take 0 rfl rfl (by kernel_rfl) (by kernel_rfl) (by kernel_rfl) (want_0) (fun w hok => x_move (tmS rfl rfl)) ?_
         refine rg_take 1 rfl rfl (by kernel_rfl) (by kernel_rfl) (by kernel_rfl) (want_0) (fun w hok => x_loadA (cs := [_, _, _, _, _, _, _]) Try.underlying32 rfl ts_32 (tmP rfl rfl) (rangeB hok 0 rfl rfl)) ?_
         refine rg_take 2 rfl rfl (by kernel_rfl) (by kernel_rfl) (by kernel_rfl) (want_0) (fun w hok => x_assign (tmS rfl rfl)) ?_
         refine rg_step 3 rfl (by kernel_rfl) (want_0) (oks_drop hS 1 rfl) ?_; intro K hK
         refine ow_storeA hS 0 rfl ts_32 (tmP rfl rfl) (tmA rfl rfl) rfl rfl rfl ?_
         clear hS; intro w hS
         try replace hS := St.nm (M' := [.blk _ _ [_, _, _, _, _, _, _], .blk _ _ [_, _, _, _, _, _, _], .vw _ _, .vw _ _]) hS rfl
         refine hK _ _ ?_; clear hK K
         refine rg_take 4 rfl rfl (by kernel_rfl) (by kernel_rfl) (by kernel_rfl) (want_0) (fun w hok => x_assign (ev_cN 0)) ?_
         refine rg_done (oks_drop hS 1 rfl) (by kernel_rfl) ?_
         refine then_n (hK132 _ _ ?_); clear hK132 K132
         refine wp_ret ?_
         refine ret3 rfl (.tmp rfl (show _ = Value.slice _ _ _ from rfl)) (.cell rfl rfl (load_rowB (cs := [_, _, _, _, _, _, _]) hS.ok 0 rfl Try.underlying32 rfl ts_32 rfl)) (.tmp rfl (show _ = Value.int _ _ from rfl)) ?_
         first
           | (right; rw [fin1 (by omega)]; exact ⟨by omega, (by subst hq; rfl), hS.kp⟩)
           | (right; rw [fin2 (by omega) (by omega) (by omega)]; exact ⟨by omega, rfl, hS.kp⟩)
           | (right; rw [f3 (by omega) (by omega) (by omega)]; exact ⟨by omega, rfl, hS.kp⟩)
           | (right; rw [f4 (by omega) (by omega) (by omega) hc6']; exact ⟨by omega, rfl, hS.kp⟩)
           | (left; exact ⟨L, _, c', f5 (by omega) (by omega) (by omega) hc6', rfl, .inl rfl, rfl, ⟨viewV hS.ok 2 rfl, hfr⟩, hS.kp⟩)
end Go.Proofs.Ytilgolflpdpfnaa
