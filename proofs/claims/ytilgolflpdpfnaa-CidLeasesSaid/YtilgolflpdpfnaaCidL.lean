
/- cid: Take and Cut by contract, told by relations. Conditions: none but bounds. -/
import Derived.Test.YtilgolflpdpfnaaCidA
namespace Go.Proofs.Ytilgolflpdpfnaa
open Go.RowKit
def plN (v s : Int) : Nat := v.toNat * 4096 + s.toNat
theorem rcid_make_g (k : Nat → Nat) (u : Nat) (v s : Int) (o : Nat) (w0 : World) (hkb : Bytes (kL k)) (hu : u ≤ 18446744073709551615) (hr : rightM v s o) :
    Calls Try.prog 50 #[.agg (rgC k u).toArray, .int .i64 v, .int .i64 s, .int .u64 (o : Int)] w0 fun e w' => ∃ A c, e = .returned (.slice A 12 c) ∧ New w0 w' (.row (.slice A 12 c) 5 1 12 ((idB (derF k u) (u % 2) (plN v s) o).map u8v)) ∧ Kp [] w0 w' := by
  obtain ⟨⟨r1, r2, r3, r4⟩, r5⟩ := hr
  obtain ⟨v, rfl⟩ := Int.eq_ofNat_of_zero_le r1
  obtain ⟨t, rfl⟩ := Int.eq_ofNat_of_zero_le r3
  exact rcid_make_c k u v t o w0 hkb hu (by omega) (by omega) r5
theorem cid_make_g (k : Nat → Nat) (u : Nat) (v s : Int) (o : Nat) (w0 : World) (hkb : Bytes (kL k)) (hu : u ≤ 18446744073709551615) (hr : rightM v s o) :
    Calls Try.prog 47 #[.agg (rgC k u).toArray, .agg (plV v s).toArray, .int .u64 (o : Int)] w0 fun e w' => ∃ A c, e = .returned (.tuple #[.slice A 12 c, .int .i64 0]) ∧ New w0 w' (.row (.slice A 12 c) 5 1 12 ((idB (derF k u) (u % 2) (plN v s) o).map u8v)) ∧ Kp [] w0 w' := by
  obtain ⟨⟨r1, r2, r3, r4⟩, r5⟩ := hr
  obtain ⟨v, rfl⟩ := Int.eq_ofNat_of_zero_le r1
  obtain ⟨t, rfl⟩ := Int.eq_ofNat_of_zero_le r3
  exact cid_make_c k u v t o w0 hkb hu (by omega) (by omega) r5
def CT (L n e c a1 a2 b1 b2 er : Nat) : Prop := (c ≤ L ∧ a1 = n ∧ a2 = n + c ∧ b1 = n + c ∧ b2 = e ∧ er = 0) ∨ (L < c ∧ a1 = 0 ∧ a2 = 0 ∧ b1 = n ∧ b2 = e ∧ er = 6)
theorem CT.ex (L n e c : Nat) : ∃ a1 a2 b1 b2 er, CT L n e c a1 a2 b1 b2 er := by
  by_cases h : c ≤ L
  · exact ⟨_, _, _, _, _, .inl ⟨h, rfl, rfl, rfl, rfl, rfl⟩⟩
  · exact ⟨_, _, _, _, _, .inr ⟨by omega, rfl, rfl, rfl, rfl, rfl⟩⟩
theorem cut_g (n e c a1 a2 b1 b2 er : Nat) (w0 : World) (hn : n ≤ 18446744073709551615) (he : e ≤ 18446744073709551615) (h : CT (leftN n e) n e c a1 a2 b1 b2 er) :
    Calls Try.prog 54 #[.agg (lsV n e).toArray, .int .u64 (c : Int)] w0 fun e' w' => e' = .returned (.tuple #[.agg (lsV a1 a2).toArray, .agg (lsV b1 b2).toArray, .int .i64 (er : Int)]) ∧ Kp [] w0 w' := by
  rcases h with ⟨h, rfl, rfl, rfl, rfl, rfl⟩ | ⟨h, rfl, rfl, rfl, rfl, rfl⟩
  · exact cut_c _ _ _ w0 hn he h
  · exact cut_bad_c _ _ _ w0 hn he h
def TK (k : Nat → Nat) (u m e : Nat) (v s : Int) (bb : List Nat) (er m' : Nat) : Prop :=
  (leftN m e = 0 ∧ bb = [] ∧ er = 6 ∧ m = m') ∨ (leftN m e ≠ 0 ∧ ¬ rightM v s m ∧ bb = [] ∧ er = 1 ∧ m = m') ∨ (leftN m e ≠ 0 ∧ rightM v s m ∧ bb = idB (derF k u) (u % 2) (plN v s) m ∧ er = 0 ∧ m' = m + 1)
theorem TK.ex (k : Nat → Nat) (u m e : Nat) (v s : Int) : ∃ bb er m', TK k u m e v s bb er m' := by
  by_cases h : leftN m e = 0
  · exact ⟨_, _, _, .inl ⟨h, rfl, rfl, rfl⟩⟩
  · by_cases h2 : rightM v s m
    · exact ⟨_, _, _, .inr (.inr ⟨h, h2, rfl, rfl, rfl⟩)⟩
    · exact ⟨_, _, _, .inr (.inl ⟨h, h2, rfl, rfl, rfl⟩)⟩
set_option maxRecDepth 100000 in
set_option maxHeartbeats 4000000 in
theorem take_g (k : Nat → Nat) (u m e : Nat) (v s : Int) (bb : List Nat) (er m' : Nat) (w0 : World) (hkb : Bytes (kL k)) (hu : u ≤ 18446744073709551615) (hm : m ≤ 18446744073709551615) (he : e ≤ 18446744073709551615) (h : TK k u m e v s bb er m') :
    Calls Try.prog 56 #[.agg (lsV m e).toArray, .agg (rgC k u).toArray, .agg (plV v s).toArray] w0 fun e' w' => ∃ A n c, n = bb.length ∧ e' = .returned (.tuple #[.slice A n c, .agg (lsV m' e).toArray, .int .i64 (er : Int)]) ∧ New w0 w' (.row (.slice A n c) 5 1 n (bb.map u8v)) ∧ Kp [] w0 w' := by
  have hS := St.sv w0
  have hL := fun w => lease_left_c m e w hm he
  have hnew : ∀ w, New w w (.row (.slice none 0 0) 5 1 0 (([] : List Nat).map u8v)) := fun w => ⟨World.ownsRow_nil w 0 _ 1, rfl, fun g hg => by cases hg⟩
  rcases h with ⟨h, rfl, rfl, rfl⟩ | ⟨h, h2, rfl, rfl, rfl⟩ | ⟨h, h2, rfl, rfl, rfl⟩
  · rw [h] at hL
    refine ent (n := 34) Try.func56 rfl rfl ?_
    refine wp_seq_k ?_; intro K1 hK1
    refine wlit ?_
    refine wl_e rfl ?_; intro K hK
    refine ow_box hS (tmA rfl rfl) rfl ?_
    clear hS; intro g0_0 w hg0_0 hS
    refine hK _ _ ?_; clear hK K
    refine wl_e rfl ?_; intro K hK
    refine ow_box hS (tmA rfl rfl) rfl ?_
    clear hS; intro g0_1 w hg0_1 hS
    refine hK _ _ ?_; clear hK K
    refine wl_e rfl ?_; intro K hK
    refine ow_box hS (tmA rfl rfl) rfl ?_
    clear hS; intro g0_2 w hg0_2 hS
    refine hK _ _ ?_; clear hK K
    refine wl_v (x_assign ev_c) ?_
    refine wl_e rfl ?_; intro K hK
    refine ow_alloc hS tz_98 rfl ?_
    clear hS; intro g0_4 w hg0_4 hS
    refine hK _ _ ?_; clear hK K
    refine wl_v (x_assign (ev_cN 0)) ?_
    refine wl_nil ?_
    refine then_n (hK1 _ _ ?_); clear hK1 K1
    refine wp_seq_k ?_; intro K2 hK2
    refine wp_seq_k ?_; intro K3 hK3
    refine wlit ?_
    refine wl_v (x_loadA (cs := [_, _]) Try.underlying98 rfl ts_98 (tmP rfl rfl) (rangeB hS.ok 3 rfl rfl)) ?_
    refine wl_e rfl ?_; intro K hK
    refine ow_call Try.func55 rfl rfl (evs_cons (tmA rfl rfl) <| evs_nil) (hL _) ?_
    rintro e w ⟨rfl, hk⟩
    refine ⟨_, rfl, ?_⟩
    replace hS := hS.kept hk
    clear hk
    refine hK _ _ ?_; clear hK K
    refine wl_v (x_eql (tmI rfl rfl) (ev_cN 0)) ?_
    refine wl_nil ?_
    refine then_n (hK3 _ _ ?_); clear hK3 K3
    refine cnds (tm rfl) (fun hc0 => ?_) (fun hc0 => ?_)
    · exfalso
      simp at hc0
    try (exfalso; first | with_reducible exact absurd hc0 Bool.false_ne_true | with_reducible exact absurd hc0.symm Bool.false_ne_true | (simp only [nrm] at hc0; omega) | (simp at hc0; done))
    all_goals
     try simp only [nrm] at hc0
     refine wp_seq_k ?_; intro K4 hK4
     replace hS := hS.pick [0, 3] rfl rfl
     try replace hS := St.nm (M' := [.blk _ _ [_, _], .blk _ _ [_, _]]) hS rfl
     refine rg_startk 1 hS mixed_ ?_
     clear hS; intro w hS
     refine rg_take 0 rfl rfl (by kernel_rfl) (by kernel_rfl) (by kernel_rfl) (want_0) (fun w hok => x_loadA (cs := [_, _]) Try.underlying98 rfl ts_98 (tmP rfl rfl) (rangeB hok 0 rfl rfl)) ?_
     refine rg_take 1 rfl rfl (by kernel_rfl) (by kernel_rfl) (by kernel_rfl) (want_0) (fun w hok => x_assign ev_c) ?_
     refine rg_step 2 rfl (by kernel_rfl) (want_0) (oks_drop hS 1 rfl) ?_; intro K hK
     refine ow_storeA hS 0 rfl ts_98 (tmP rfl rfl) (tmA rfl rfl) rfl rfl rfl ?_
     clear hS; intro w hS
     refine hK _ _ ?_; clear hK K
     refine rg_take 3 rfl rfl (by kernel_rfl) (by kernel_rfl) (by kernel_rfl) (want_0) (fun w hok => x_assign (ev_cN 6)) ?_
     refine rg_done (oks_drop hS 1 rfl) (by kernel_rfl) ?_
     refine then_n (hK4 _ _ ?_); clear hK4 K4
     refine wp_ret ?_
     refine then_r ?_
     refine ret3 rfl (.tmp rfl (show _ = Value.slice _ _ _ from rfl)) (.cell rfl rfl (load_rowB (cs := [_, _]) hS.ok 0 rfl Try.underlying98 rfl ts_98 rfl)) (.tmp rfl (show _ = Value.int _ _ from rfl)) ?_
     exact ⟨none, 0, 0, rfl, rfl, ⟨World.ownsRow_nil _ 0 _ 1, rfl, fun g hg => by cases hg⟩, hS.kp⟩
  · generalize leftN m e = L9 at *
    refine ent (n := 34) Try.func56 rfl rfl ?_
    refine wp_seq_k ?_; intro K1 hK1
    refine wlit ?_
    refine wl_e rfl ?_; intro K hK
    refine ow_box hS (tmA rfl rfl) rfl ?_
    clear hS; intro g0_0 w hg0_0 hS
    refine hK _ _ ?_; clear hK K
    refine wl_e rfl ?_; intro K hK
    refine ow_box hS (tmA rfl rfl) rfl ?_
    clear hS; intro g0_1 w hg0_1 hS
    refine hK _ _ ?_; clear hK K
    refine wl_e rfl ?_; intro K hK
    refine ow_box hS (tmA rfl rfl) rfl ?_
    clear hS; intro g0_2 w hg0_2 hS
    refine hK _ _ ?_; clear hK K
    refine wl_v (x_assign ev_c) ?_
    refine wl_e rfl ?_; intro K hK
    refine ow_alloc hS tz_98 rfl ?_
    clear hS; intro g0_4 w hg0_4 hS
    refine hK _ _ ?_; clear hK K
    refine wl_v (x_assign (ev_cN 0)) ?_
    refine wl_nil ?_
    refine then_n (hK1 _ _ ?_); clear hK1 K1
    refine wp_seq_k ?_; intro K2 hK2
    refine wp_seq_k ?_; intro K3 hK3
    refine wlit ?_
    refine wl_v (x_loadA (cs := [_, _]) Try.underlying98 rfl ts_98 (tmP rfl rfl) (rangeB hS.ok 3 rfl rfl)) ?_
    refine wl_e rfl ?_; intro K hK
    refine ow_call Try.func55 rfl rfl (evs_cons (tmA rfl rfl) <| evs_nil) (hL _) ?_
    rintro e w ⟨rfl, hk⟩
    refine ⟨_, rfl, ?_⟩
    replace hS := hS.kept hk
    clear hk
    refine hK _ _ ?_; clear hK K
    refine wl_v (x_eql (tmI rfl rfl) (ev_cN 0)) ?_
    refine wl_nil ?_
    refine then_n (hK3 _ _ ?_); clear hK3 K3
    refine cnd (tm rfl) (fun hc0 => ?_) (fun hc0 => ?_)
    · exfalso
      simp only [nrm] at hc0
      omega
    try (exfalso; first | with_reducible exact absurd hc0 Bool.false_ne_true | with_reducible exact absurd hc0.symm Bool.false_ne_true | (simp only [nrm] at hc0; omega) | (simp at hc0; done))
    all_goals
     try simp only [nrm] at hc0
     refine wp_skip ?_
     refine then_n (hK2 _ _ ?_); clear hK2 K2
     refine wp_seq_k ?_; intro K4 hK4
     refine wlit ?_
     refine wl_v (x_loadA (cs := [_, _, _, _, _, _, _, _, _, _, _, _, _, _, _, _, _]) Try.underlying69 rfl ts_69 (tmP rfl rfl) (rangeB hS.ok 2 rfl rfl)) ?_
     refine wl_v (x_loadA (cs := [_, _]) Try.underlying88 rfl ts_88 (tmP rfl rfl) (rangeB hS.ok 1 rfl rfl)) ?_
     refine wl_v (x_fa 0 Try.underlying98 rfl rfl ts_24 (tmP rfl rfl)) ?_
     first
      | refine wl_v (x_load Try.underlying24 rfl (tmP rfl rfl) (cellB hS.ok 3 rfl rfl)) ?_
      | refine wl_v (x_load Try.underlying24 rfl (tmP rfl rfl) (cellB hS.ok 3 rfl (getm (by omega)))) ?_
     refine wl_e rfl ?_; intro K hK
     refine ow_call Try.func47 rfl rfl (evs_cons (tmA rfl rfl) <| evs_cons (tmA rfl rfl) <| evs_cons (tmI rfl rfl) <| evs_nil) (cid_make_bad k u v s m _ h2) ?_
     rintro e w ⟨rfl, hk⟩
     refine ⟨_, rfl, ?_⟩
     replace hS := hS.kept hk
     clear hk
     refine hK _ _ ?_; clear hK K
     refine wl_v (x_move (tmT rfl rfl)) ?_
     refine wl_v (x_ext (tmT rfl rfl) rfl) ?_
     refine wl_v (x_ext (tmT rfl rfl) rfl) ?_
     refine wl_v (x_assign (tmS rfl rfl)) ?_
     refine wl_v (x_assign (tmI rfl rfl)) ?_
     refine wl_nil ?_
     refine then_n (hK4 _ _ ?_); clear hK4 K4
     refine wp_seq_k ?_; intro K5 hK5
     refine wp_seq_k ?_; intro K6 hK6
     refine wlit ?_
     refine wl_v (x_move (tmI rfl rfl)) ?_
     refine wl_v (x_neq (tmI rfl rfl) (ev_cN 0)) ?_
     refine wl_nil ?_
     refine then_n (hK6 _ _ ?_); clear hK6 K6
     refine cnds (tm rfl) (fun hc1 => ?_) (fun hc1 => ?_)
     · exfalso
       simp at hc1
     try (exfalso; first | with_reducible exact absurd hc1 Bool.false_ne_true | with_reducible exact absurd hc1.symm Bool.false_ne_true | (simp only [nrm] at hc1; omega) | (simp at hc1; done))
     all_goals
      try simp only [nrm] at hc1
      refine wp_seq_k ?_; intro K7 hK7
      replace hS := hS.pick [0, 3] rfl rfl
      try replace hS := St.nm (M' := [.blk _ _ [_, _], .blk _ _ [_, _]]) hS rfl
      refine rg_startk 1 hS mixed_ ?_
      clear hS; intro w hS
      refine rg_take 0 rfl rfl (by kernel_rfl) (by kernel_rfl) (by kernel_rfl) (want_0) (fun w hok => x_loadA (cs := [_, _]) Try.underlying98 rfl ts_98 (tmP rfl rfl) (rangeB hok 0 rfl rfl)) ?_
      refine rg_take 1 rfl rfl (by kernel_rfl) (by kernel_rfl) (by kernel_rfl) (want_0) (fun w hok => x_move (tmI rfl rfl)) ?_
      refine rg_take 2 rfl rfl (by kernel_rfl) (by kernel_rfl) (by kernel_rfl) (want_0) (fun w hok => x_assign ev_c) ?_
      refine rg_step 3 rfl (by kernel_rfl) (want_0) (oks_drop hS 1 rfl) ?_; intro K hK
      refine ow_storeA hS 0 rfl ts_98 (tmP rfl rfl) (tmA rfl rfl) rfl rfl rfl ?_
      clear hS; intro w hS
      refine hK _ _ ?_; clear hK K
      refine rg_take 4 rfl rfl (by kernel_rfl) (by kernel_rfl) (by kernel_rfl) (want_0) (fun w hok => x_assign (tmI rfl rfl)) ?_
      refine rg_done (oks_drop hS 1 rfl) (by kernel_rfl) ?_
      refine then_n (hK7 _ _ ?_); clear hK7 K7
      refine wp_ret ?_
      refine then_r ?_
      refine ret3 rfl (.tmp rfl (show _ = Value.slice _ _ _ from rfl)) (.cell rfl rfl (load_rowB (cs := [_, _]) hS.ok 0 rfl Try.underlying98 rfl ts_98 rfl)) (.tmp rfl (show _ = Value.int _ _ from rfl)) ?_
      exact ⟨none, 0, 0, rfl, rfl, ⟨World.ownsRow_nil _ 0 _ 1, rfl, fun g hg => by cases hg⟩, hS.kp⟩
  · have hme : m < e := by unfold leftN at h; split at h <;> omega
    generalize leftN m e = L9 at *
    have hbl := idB_len (derF k u) (u % 2) (plN v s) m
    have hMk := fun w => cid_make_g k u v s m w hkb hu h2
    refine ent (n := 34) Try.func56 rfl rfl ?_
    refine wp_seq_k ?_; intro K1 hK1
    refine wlit ?_
    refine wl_e rfl ?_; intro K hK
    refine ow_box hS (tmA rfl rfl) rfl ?_
    clear hS; intro g0_0 w hg0_0 hS
    refine hK _ _ ?_; clear hK K
    refine wl_e rfl ?_; intro K hK
    refine ow_box hS (tmA rfl rfl) rfl ?_
    clear hS; intro g0_1 w hg0_1 hS
    refine hK _ _ ?_; clear hK K
    refine wl_e rfl ?_; intro K hK
    refine ow_box hS (tmA rfl rfl) rfl ?_
    clear hS; intro g0_2 w hg0_2 hS
    refine hK _ _ ?_; clear hK K
    refine wl_v (x_assign ev_c) ?_
    refine wl_e rfl ?_; intro K hK
    refine ow_alloc hS tz_98 rfl ?_
    clear hS; intro g0_4 w hg0_4 hS
    refine hK _ _ ?_; clear hK K
    refine wl_v (x_assign (ev_cN 0)) ?_
    refine wl_nil ?_
    refine then_n (hK1 _ _ ?_); clear hK1 K1
    refine wp_seq_k ?_; intro K2 hK2
    refine wp_seq_k ?_; intro K3 hK3
    refine wlit ?_
    refine wl_v (x_loadA (cs := [_, _]) Try.underlying98 rfl ts_98 (tmP rfl rfl) (rangeB hS.ok 3 rfl rfl)) ?_
    refine wl_e rfl ?_; intro K hK
    refine ow_call Try.func55 rfl rfl (evs_cons (tmA rfl rfl) <| evs_nil) (hL _) ?_
    rintro e w ⟨rfl, hk⟩
    refine ⟨_, rfl, ?_⟩
    replace hS := hS.kept hk
    clear hk
    refine hK _ _ ?_; clear hK K
    refine wl_v (x_eql (tmI rfl rfl) (ev_cN 0)) ?_
    refine wl_nil ?_
    refine then_n (hK3 _ _ ?_); clear hK3 K3
    refine cnd (tm rfl) (fun hc0 => ?_) (fun hc0 => ?_)
    · exfalso
      simp only [nrm] at hc0
      omega
    try (exfalso; first | with_reducible exact absurd hc0 Bool.false_ne_true | with_reducible exact absurd hc0.symm Bool.false_ne_true | (simp only [nrm] at hc0; omega) | (simp at hc0; done))
    all_goals
     try simp only [nrm] at hc0
     refine wp_skip ?_
     refine then_n (hK2 _ _ ?_); clear hK2 K2
     refine wp_seq_k ?_; intro K4 hK4
     refine wlit ?_
     refine wl_v (x_loadA (cs := [_, _, _, _, _, _, _, _, _, _, _, _, _, _, _, _, _]) Try.underlying69 rfl ts_69 (tmP rfl rfl) (rangeB hS.ok 2 rfl rfl)) ?_
     refine wl_v (x_loadA (cs := [_, _]) Try.underlying88 rfl ts_88 (tmP rfl rfl) (rangeB hS.ok 1 rfl rfl)) ?_
     refine wl_v (x_fa 0 Try.underlying98 rfl rfl ts_24 (tmP rfl rfl)) ?_
     first
      | refine wl_v (x_load Try.underlying24 rfl (tmP rfl rfl) (cellB hS.ok 3 rfl rfl)) ?_
      | refine wl_v (x_load Try.underlying24 rfl (tmP rfl rfl) (cellB hS.ok 3 rfl (getm (by omega)))) ?_
     refine wl_e rfl ?_; intro K hK
     refine ow_call Try.func47 rfl rfl (evs_cons (tmA rfl rfl) <| evs_cons (tmA rfl rfl) <| evs_cons (tmI rfl rfl) <| evs_nil) (hMk _) ?_
     rintro e w ⟨A1, c1, rfl, hn, hk⟩
     refine ⟨_, rfl, ?_⟩
     replace hS := hS.add hk hn -- +rowa
     clear hn hk
     refine hK _ _ ?_; clear hK K
     refine wl_v (x_move (tmT rfl rfl)) ?_
     refine wl_v (x_ext (tmT rfl rfl) rfl) ?_
     refine wl_v (x_ext (tmT rfl rfl) rfl) ?_
     refine wl_v (x_assign (tmS rfl rfl)) ?_
     refine wl_v (x_assign (tmI rfl rfl)) ?_
     refine wl_nil ?_
     refine then_n (hK4 _ _ ?_); clear hK4 K4
     refine wp_seq_k ?_; intro K5 hK5
     refine wp_seq_k ?_; intro K6 hK6
     refine wlit ?_
     refine wl_v (x_move (tmI rfl rfl)) ?_
     refine wl_v (x_neq (tmI rfl rfl) (ev_cN 0)) ?_
     refine wl_nil ?_
     refine then_n (hK6 _ _ ?_); clear hK6 K6
     refine cnd (tm rfl) (fun hc1 => ?_) (fun hc1 => ?_)
     · exfalso
       simp at hc1
     try (exfalso; first | with_reducible exact absurd hc1 Bool.false_ne_true | with_reducible exact absurd hc1.symm Bool.false_ne_true | (simp only [nrm] at hc1; omega) | (simp at hc1; done))
     all_goals
      try simp only [nrm] at hc1
      refine wp_skip ?_
      refine then_n (hK5 _ _ ?_); clear hK5 K5
      refine wp_seq_k ?_; intro K7 hK7
      replace hS := hS.pick [1, 4, 0] rfl rfl
      try replace hS := St.nm (M' := [.blk _ _ [_, _], .blk _ _ [_, _], .row _ _ _ _ _]) hS rfl
      refine rg_startk 1 hS mixed_ ?_
      clear hS; intro w hS
      refine rg_take 0 rfl rfl (by kernel_rfl) (by kernel_rfl) (by kernel_rfl) (want_0) (fun w hok => x_move (tmS rfl rfl)) ?_
      refine rg_take 1 rfl rfl (by kernel_rfl) (by kernel_rfl) (by kernel_rfl) (want_0) (fun w hok => x_fa 0 Try.underlying98 rfl rfl ts_24 (tmP rfl rfl)) ?_
      first
       | refine rg_take 2 rfl rfl (by kernel_rfl) (by kernel_rfl) (by kernel_rfl) (want_0) (fun w hok => x_load Try.underlying24 rfl (tmP rfl rfl) (cellB hok 0 rfl rfl)) ?_
       | refine rg_take 2 rfl rfl (by kernel_rfl) (by kernel_rfl) (by kernel_rfl) (want_0) (fun w hok => x_load Try.underlying24 rfl (tmP rfl rfl) (cellB hok 0 rfl (getm (by omega)))) ?_
      first
       | refine rg_take 3 rfl rfl (by kernel_rfl) (by kernel_rfl) (by kernel_rfl) (want_0) (fun w hok => x_addN (tmI rfl rfl) (ev_cN 1) (fit_u64 (by omega))) ?_
       | refine rg_take 3 rfl rfl (by kernel_rfl) (by kernel_rfl) (by kernel_rfl) (want_0) (fun w hok => x_addI (tmI rfl rfl) (ev_cN 1) (IntWalk.u64_in _ (by omega))) ?_
       | refine rg_take 3 rfl rfl (by kernel_rfl) (by kernel_rfl) (by kernel_rfl) (want_0) (fun w hok => x_addU (tmI rfl rfl) (ev_cN 1) rfl) ?_
       | refine rg_take 3 rfl rfl (by kernel_rfl) (by kernel_rfl) (by kernel_rfl) (want_0) (fun w hok => x_add (tmI rfl rfl) (ev_cN 1)) ?_
      refine rg_take 4 rfl rfl (by kernel_rfl) (by kernel_rfl) (by kernel_rfl) (want_0) (fun w hok => x_fa 1 Try.underlying98 rfl rfl ts_24 (tmP rfl rfl)) ?_
      first
       | refine rg_take 5 rfl rfl (by kernel_rfl) (by kernel_rfl) (by kernel_rfl) (want_0) (fun w hok => x_load Try.underlying24 rfl (tmP rfl rfl) (cellB hok 0 rfl rfl)) ?_
       | refine rg_take 5 rfl rfl (by kernel_rfl) (by kernel_rfl) (by kernel_rfl) (want_0) (fun w hok => x_load Try.underlying24 rfl (tmP rfl rfl) (cellB hok 0 rfl (getm (by omega)))) ?_
      refine rg_take 6 rfl rfl (by kernel_rfl) (by kernel_rfl) (by kernel_rfl) (want_0) (fun w hok => x_build (bc_take (tmI rfl rfl) <| bc_take (tmI rfl rfl) <| bc_nil) (by kernel_rfl)) ?_
      refine rg_take 7 rfl rfl (by kernel_rfl) (by kernel_rfl) (by kernel_rfl) (want_0) (fun w hok => x_assign (tmS rfl rfl)) ?_
      refine rg_step 8 rfl (by kernel_rfl) (want_0) (oks_drop hS 1 rfl) ?_; intro K hK
      refine ow_storeA hS 0 rfl ts_98 (tmP rfl rfl) (tmA rfl rfl) rfl rfl rfl ?_
      clear hS; intro w hS
      refine hK _ _ ?_; clear hK K
      refine rg_take 9 rfl rfl (by kernel_rfl) (by kernel_rfl) (by kernel_rfl) (want_0) (fun w hok => x_assign (ev_cN 0)) ?_
      refine rg_done (oks_drop hS 1 rfl) (by kernel_rfl) ?_
      refine then_n (hK7 _ _ ?_); clear hK7 K7
      refine wp_ret ?_
      refine ret3 rfl (.tmp rfl (show _ = Value.slice _ _ _ from rfl)) (.cell rfl rfl (load_rowB (cs := [_, _]) hS.ok 0 rfl Try.underlying98 rfl ts_98 rfl)) (.tmp rfl (show _ = Value.int _ _ from rfl)) ?_
      exact ⟨A1, 12, c1, hbl.symm, rfl, hS.new 2 rfl rfl, hS.kp⟩
end Go.Proofs.Ytilgolflpdpfnaa
