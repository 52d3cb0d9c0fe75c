
/- cid: Read by contract, and the reference's. Conditions: none but bounds. -/
import Derived.Test.YtilgolflpdpfnaaCidM
import Derived.Test.YtilgolflpdpfnaaRd
namespace Go.Proofs.Ytilgolflpdpfnaa
open Go.RowKit
set_option maxRecDepth 100000 in
set_option maxHeartbeats 4000000 in
theorem equal_c (A1 A2 : Option Addr) (n1 n2 c1 c2 : Nat) (l m : List Nat) (w0 : World) (h1 : View w0 w0.heap.size A1 (l.map u8v)) (h2 : View w0 w0.heap.size A2 (m.map u8v)) (hl : l.length = n1) (hm : m.length = n2) (hb : Bytes l) (hb2 : Bytes m) :
    Calls Try.prog 113 #[.slice A1 n1 c1, .slice A2 n2 c2] w0 fun e w' => e = .returned (.bool (decide (l = m))) ∧ Kp [] w0 w' := by
  have hS := ((St.sv w0).vcons rfl h2).vcons rfl h1
  refine ent (n := 10) Try.func113 rfl rfl ?_
  refine wp_seq_k ?_; intro K1 hK1
  refine wlit ?_
  refine wl_v (x_assign ev_c) ?_
  refine wl_nil ?_
  refine then_n (hK1 _ _ ?_); clear hK1 K1
  refine wp_seq_k ?_; intro K2 hK2
  refine wlit ?_
  refine wl_v (x_move (tmS rfl rfl)) ?_
  refine wl_v (x_bstr Try.underlying22 Try.underlying5 Try.underlying9 (tmS rfl rfl) (viewV hS.ok 0 rfl) hb hl) ?_
  refine wl_v (x_move (tmS rfl rfl)) ?_
  refine wl_v (x_bstr Try.underlying22 Try.underlying5 Try.underlying9 (tmS rfl rfl) (viewV hS.ok 1 rfl) hb2 hm) ?_
  refine wl_v (x_Geql (tmG rfl rfl) (tmG rfl rfl) (by first | assumption | exact Bytes.nil | (repeat' (first | assumption | exact Bytes.nil | exact be_bytes _ _ | apply Bytes.append | apply Bytes.take | apply Bytes.drop | apply Bytes.replicate))) (by first | assumption | exact Bytes.nil | (repeat' (first | assumption | exact Bytes.nil | exact be_bytes _ _ | apply Bytes.append | apply Bytes.take | apply Bytes.drop | apply Bytes.replicate)))) ?_
  refine wl_v (x_assign (tmB rfl rfl)) ?_
  refine wl_nil ?_
  refine then_n (hK2 _ _ ?_); clear hK2 K2
  refine wp_ret ?_
  refine ret1 rfl (.tmp rfl (show _ = Value.bool _ from rfl)) ?_
  exact ⟨rfl, hS.kp⟩
set_option maxRecDepth 100000 in
set_option maxHeartbeats 4000000 in
theorem cid_read_short (k : Nat → Nat) (u : Nat) (A : Option Addr) (n c : Nat) (w0 : World) (h : n ≠ 12) :
    Calls Try.prog 51 #[.agg (rgC k u).toArray, .slice A n c] w0 fun e w' => e = .returned (.tuple #[.agg (plV 0 0).toArray, .int .u64 0, .int .i64 20]) ∧ Kp [] w0 w' := by
  have hS := St.sv w0
  refine ent (n := 55) Try.func51 rfl rfl ?_
  refine wp_seq_k ?_; intro K1 hK1
  refine wlit ?_
  refine wl_e rfl ?_; intro K hK
  refine ow_box hS (tmA rfl rfl) rfl ?_
  clear hS; intro g0_0 w hg0_0 hS
  refine hK _ _ ?_; clear hK K
  refine wl_e rfl ?_; intro K hK
  refine ow_alloc hS tz_88 rfl ?_
  clear hS; intro g0_1 w hg0_1 hS
  refine hK _ _ ?_; clear hK K
  refine wl_v (x_assign (ev_cN 0)) ?_
  refine wl_v (x_assign (ev_cN 0)) ?_
  refine wl_nil ?_
  refine then_n (hK1 _ _ ?_); clear hK1 K1
  refine wp_seq_k ?_; intro K2 hK2
  refine wp_seq_k ?_; intro K3 hK3
  refine wlit ?_
  refine wl_v (x_move (tmS rfl rfl)) ?_
  refine wl_v (x_len Try.underlying22 (tmS rfl rfl)) ?_
  refine wl_v (x_neq (tmI rfl rfl) (ev_cN 12)) ?_
  refine wl_nil ?_
  refine then_n (hK3 _ _ ?_); clear hK3 K3
  refine cnds (tm rfl) (fun hc0 => ?_) (fun hc0 => ?_)
  · exfalso
    simp only [nrm] at hc0
    omega
  try (exfalso; first | with_reducible exact absurd hc0 Bool.false_ne_true | with_reducible exact absurd hc0.symm Bool.false_ne_true | (simp only [nrm] at hc0; omega) | (simp at hc0; done))
  all_goals
   try simp only [nrm] at hc0
   refine wp_seq_k ?_; intro K4 hK4
   refine wlit ?_
   refine wl_v (x_build (bc_skip (.int .i64 0) <| bc_skip (.int .i64 0) <| bc_nil) (by kernel_rfl)) ?_
   refine wl_e rfl ?_; intro K hK
   refine ow_storeA hS 0 rfl ts_88 (tmP rfl rfl) (tmA rfl rfl) rfl rfl rfl ?_
   clear hS; intro w hS
   refine hK _ _ ?_; clear hK K
   refine wl_v (x_assign (ev_cN 0)) ?_
   refine wl_v (x_assign (ev_cN 20)) ?_
   refine wl_nil ?_
   refine then_n (hK4 _ _ ?_); clear hK4 K4
   refine wp_ret ?_
   refine then_r ?_
   refine ret3 rfl (.cell rfl rfl (load_rowB (cs := [_, _]) hS.ok 0 rfl Try.underlying88 rfl ts_88 rfl)) (.tmp rfl (show _ = Value.int _ _ from rfl)) (.tmp rfl (show _ = Value.int _ _ from rfl)) ?_
   exact ⟨rfl, hS.kp⟩
set_option maxRecDepth 100000 in
set_option maxHeartbeats 4000000 in
theorem rcid_read_short (k : Nat → Nat) (u : Nat) (A : Option Addr) (n c : Nat) (w0 : World) (h : n ≠ 12) :
    Calls Try.prog 52 #[.agg (rgC k u).toArray, .slice A n c] w0 fun e w' => e = .returned (.tuple #[.int .i64 0, .int .i64 0, .int .u64 0, .int .i64 20]) ∧ Kp [] w0 w' := by
  have hS := St.sv w0
  refine ent (n := 52) Try.func52 rfl rfl ?_
  refine wp_seq_k ?_; intro K1 hK1
  refine wlit ?_
  refine wl_e rfl ?_; intro K hK
  refine ow_box hS (tmA rfl rfl) rfl ?_
  clear hS; intro g0_0 w hg0_0 hS
  refine hK _ _ ?_; clear hK K
  refine wl_v (x_assign (ev_cN 0)) ?_
  refine wl_v (x_assign (ev_cN 0)) ?_
  refine wl_v (x_assign (ev_cN 0)) ?_
  refine wl_v (x_assign (ev_cN 0)) ?_
  refine wl_nil ?_
  refine then_n (hK1 _ _ ?_); clear hK1 K1
  refine wp_seq_k ?_; intro K2 hK2
  refine wp_seq_k ?_; intro K3 hK3
  refine wlit ?_
  refine wl_v (x_move (tmS rfl rfl)) ?_
  refine wl_v (x_len Try.underlying22 (tmS rfl rfl)) ?_
  refine wl_v (x_neq (tmI rfl rfl) (ev_cN 12)) ?_
  refine wl_nil ?_
  refine then_n (hK3 _ _ ?_); clear hK3 K3
  refine cnds (tm rfl) (fun hc0 => ?_) (fun hc0 => ?_)
  · exfalso
    simp only [nrm] at hc0
    omega
  try (exfalso; first | with_reducible exact absurd hc0 Bool.false_ne_true | with_reducible exact absurd hc0.symm Bool.false_ne_true | (simp only [nrm] at hc0; omega) | (simp at hc0; done))
  all_goals
   try simp only [nrm] at hc0
   refine wp_seq_k ?_; intro K4 hK4
   refine wlit ?_
   refine wl_v (x_assign (ev_cN 0)) ?_
   refine wl_v (x_assign (ev_cN 0)) ?_
   refine wl_v (x_assign (ev_cN 0)) ?_
   refine wl_v (x_assign (ev_cN 20)) ?_
   refine wl_nil ?_
   refine then_n (hK4 _ _ ?_); clear hK4 K4
   refine wp_ret ?_
   refine then_r ?_
   refine ret4 rfl (.tmp rfl (show _ = Value.int _ _ from rfl)) (.tmp rfl (show _ = Value.int _ _ from rfl)) (.tmp rfl (show _ = Value.int _ _ from rfl)) (.tmp rfl (show _ = Value.int _ _ from rfl)) ?_
   exact ⟨rfl, hS.kp⟩
/-- The tag of an ID's bytes is right, by the key that its bit names. -/
def tagOk (k : Nat → Nat) (u : Nat) (l : List Nat) : Prop := atB u ((getN l 5 2 / 32768 : Nat) : Int) = true ∧ ctagB (atK k u ((getN l 5 2 / 32768 : Nat) : Int)) (l.take 7) = l.drop 7
def idX (k : Nat → Nat) (u : Nat) (l : List Nat) : Nat := getN l 5 2 ^^^ cmaskN (atK k u ((getN l 5 2 / 32768 : Nat) : Int)) (l.take 5)
set_option maxRecDepth 100000 in
set_option maxHeartbeats 4000000 in
theorem cid_read_c (k : Nat → Nat) (u : Nat) (A : Option Addr) (c : Nat) (l : List Nat) (w0 : World) (hkb : Bytes (kL k)) (hu : u ≤ 18446744073709551615) (hv : View w0 w0.heap.size A (l.map u8v)) (hl : l.length = 12) (hc : 12 ≤ c) (hb : Bytes l) (x o e0 : Nat) (hR : (tagOk k u l ∧ x = idX k u l ∧ o = numBE (l.take 5) ∧ e0 = 0) ∨ (¬ tagOk k u l ∧ x = 0 ∧ o = 0 ∧ e0 = 26)) :
    Calls Try.prog 51 #[.agg (rgC k u).toArray, .slice A 12 c] w0 fun e w' => e = .returned (.tuple #[.agg (plV ((x / 4096 % 8 : Nat) : Int) ((x % 4096 : Nat) : Int)).toArray, .int .u64 (o : Int), .int .i64 (e0 : Int)]) ∧ Kp [] w0 w' := by
  have hS := (St.sv w0).vcons rfl hv
  have hl5 : (l.take 5).length = 5 := by rw [List.length_take]; omega
  have hl7 : (l.take 7).length = 7 := by rw [List.length_take]; omega
  have hd7 : ((l.drop 5).take 7).length = 7 := by rw [List.length_take, List.length_drop]; omega
  have hd5 : ((l.drop 7).take 5).length = 5 := by rw [List.length_take, List.length_drop]; omega
  have he5 : (l.drop 7).take 5 = l.drop 7 := List.take_of_length_le (by rw [List.length_drop]; omega)
  have hWd : getN ((l.drop 5).take 7) 0 2 = getN l 5 2 := by unfold getN; rw [List.drop_zero, List.take_take]; rfl
  have hWb : getN l 5 2 < 256 ^ 2 := getN_lt hb 5 2
  have hN5 : numBE (((l.take 5).drop 0).take 5) = numBE (l.take 5) := by rw [List.drop_zero, List.take_of_length_le (by omega)]
  have hNb : numBE (l.take 5) < 256 ^ (l.take 5).length := numBE_lt' (hb.take 5)
  rw [hl5] at hNb
  have hKb : Bytes (kL (atK k u ((getN l 5 2 / 32768 : Nat) : Int))) := atK_bytes
  have hm := cmaskN_lt (atK k u ((getN l 5 2 / 32768 : Nat) : Int)) (l.take 5)
  have hxb : getN l 5 2 ^^^ cmaskN (atK k u ((getN l 5 2 / 32768 : Nat) : Int)) (l.take 5) < 2 ^ 16 := Nat.xor_lt_two_pow (by omega) (by omega)
  have hxm : getN l 5 2 % 32768 ^^^ cmaskN (atK k u ((getN l 5 2 / 32768 : Nat) : Int)) (l.take 5) = (getN l 5 2 ^^^ cmaskN (atK k u ((getN l 5 2 / 32768 : Nat) : Int)) (l.take 5)) % 32768 := by
    have h := Nat.xor_mod_two_pow (a := getN l 5 2) (b := cmaskN (atK k u ((getN l 5 2 / 32768 : Nat) : Int)) (l.take 5)) (n := 15)
    rw [Nat.mod_eq_of_lt (show cmaskN (atK k u ((getN l 5 2 / 32768 : Nat) : Int)) (l.take 5) < 2 ^ 15 by omega)] at h
    exact h.symm
  have hA := fun w => ring_at_c k u ((getN l 5 2 / 32768 : Nat) : Int) w hkb hu
  unfold tagOk idX at hR
  generalize hww : getN l 5 2 = ww at *
  generalize hkk : atK k u ((ww / 32768 : Nat) : Int) = kk at *
  generalize hbb : atB u ((ww / 32768 : Nat) : Int) = bb at *
  have hT := fun A w hv => cid_tag_c kk A 7 c (l.take 7) w hKb hv hl7 (hb.take 7) (by omega)
  have hM := fun A w hv => cid_mask_c kk A 5 c (l.take 5) w hKb hv hl5 (hb.take 5) (by omega)
  have hTb : Bytes (ctagB kk (l.take 7)) := be_bytes _ _
  have hTl : (ctagB kk (l.take 7)).length = 5 := be_length _ _
  generalize ctagB kk (l.take 7) = tt at *
  generalize cmaskN kk (l.take 5) = m at *
  have hof := fun w => place_of_c (ww ^^^ m) w (by omega)
  refine ent (n := 55) Try.func51 rfl rfl ?_
  refine wp_seq_k ?_; intro K1 hK1
  refine wlit ?_
  refine wl_e rfl ?_; intro K hK
  refine ow_box hS (tmA rfl rfl) rfl ?_
  clear hS; intro g0_0 w hg0_0 hS
  refine hK _ _ ?_; clear hK K
  refine wl_e rfl ?_; intro K hK
  refine ow_alloc hS tz_88 rfl ?_
  clear hS; intro g0_1 w hg0_1 hS
  refine hK _ _ ?_; clear hK K
  refine wl_v (x_assign (ev_cN 0)) ?_
  refine wl_v (x_assign (ev_cN 0)) ?_
  refine wl_nil ?_
  refine then_n (hK1 _ _ ?_); clear hK1 K1
  refine wp_seq_k ?_; intro K2 hK2
  refine wp_seq_k ?_; intro K3 hK3
  refine wlit ?_
  refine wl_v (x_move (tmS rfl rfl)) ?_
  refine wl_v (x_len Try.underlying22 (tmS rfl rfl)) ?_
  refine wl_v (x_neq (tmI rfl rfl) (ev_cN 12)) ?_
  refine wl_nil ?_
  refine then_n (hK3 _ _ ?_); clear hK3 K3
  refine cnd (tm rfl) (fun hc0 => ?_) (fun hc0 => ?_)
  · exfalso
    simp at hc0
  try (exfalso; first | with_reducible exact absurd hc0 Bool.false_ne_true | with_reducible exact absurd hc0.symm Bool.false_ne_true | (simp only [nrm] at hc0; omega) | (simp at hc0; done))
  all_goals
   try simp only [nrm] at hc0
   refine wp_skip ?_
   refine then_n (hK2 _ _ ?_); clear hK2 K2
   refine wp_seq_k ?_; intro K4 hK4
   refine rg_startk 0 hS mixed_ ?_
   clear hS; intro w hS
   refine rg_take 0 rfl rfl (by kernel_rfl) (by kernel_rfl) (by kernel_rfl) (want_0) (fun w hok => x_move (tmS rfl rfl)) ?_
   refine rg_take 1 rfl rfl (by kernel_rfl) (by kernel_rfl) (by kernel_rfl) (want_0) (fun w hok => x_sliceH Try.underlying22 ts_5 (tmS rfl rfl) (ev_cN 5) (by omega)) ?_
   refine rg_take 2 rfl rfl (by kernel_rfl) (by kernel_rfl) (by kernel_rfl) (want_0) (fun w hok => x_move (tmS rfl rfl)) ?_
   refine rg_take 3 rfl rfl (by kernel_rfl) (by kernel_rfl) (by kernel_rfl) (want_0) (fun w hok => x_sliceH Try.underlying22 ts_5 (tmS rfl rfl) (ev_cN 7) (by omega)) ?_
   refine rg_take 4 rfl rfl (by kernel_rfl) (by kernel_rfl) (by kernel_rfl) (want_0) (fun w hok => x_assign (tmS rfl rfl)) ?_
   refine rg_take 5 rfl rfl (by kernel_rfl) (by kernel_rfl) (by kernel_rfl) (want_0) (fun w hok => x_assign (tmS rfl rfl)) ?_
   refine rg_done (oks_drop hS 0 rfl) (by kernel_rfl) ?_
   refine then_n (hK4 _ _ ?_); clear hK4 K4
   refine wp_seq_k ?_; intro K5 hK5
   replace hS := hS.cutb 2 5 7 rfl (by omega : l.length ≤ c)
   replace hS := hS.cutb 3 7 5 rfl (by omega : l.length ≤ c)
   rw [he5] at hS
   replace hS := hS.cutb 4 0 5 rfl (by omega : l.length ≤ c)
   replace hS := hS.cutb 5 0 7 rfl (by omega : l.length ≤ c)
   refine wlit ?_
   refine wl_v (x_move (tmS rfl rfl)) ?_
   refine wl_v (x_sliceL Try.underlying22 ts_5 (tmS rfl rfl) (ev_cN 5) (by omega)) ?_
   refine wl_e rfl ?_; intro K hK
   refine ow_call Try.func100 rfl rfl (evs_cons (tmS rfl rfl) <| evs_nil) (read_c 7 _ _ ((l.drop 5).take 7) _ (viewV hS.ok 3 rfl) hd7 (by omega)) ?_
   rintro e w ⟨gr, A0, rfl, hS2⟩
   refine ⟨_, rfl, ?_⟩
   replace hS := hS.adds hS2 rfl -- +gr,rowr
   clear hS2
   refine hK _ _ ?_; clear hK K
   refine wl_e rfl ?_; intro K hK
   refine ow_call Try.func112 rfl rfl (evs_cons (tmP rfl rfl) <| evs_nil) (word_c gr A0 A0 0 7 7 ((l.drop 5).take 7) false _ _ (hS.enter [0] [1] rfl rfl) off_zero (by omega) (by omega) hd7 ((hb.drop 5).take 7)) ?_
   rintro e w ⟨A1, c1, rfl, hS2, hA1, hcp⟩
   refine ⟨_, rfl, ?_⟩
   replace hS := hS.turn 0 rfl rfl hS2 rfl
   clear hS2
   try replace hS := St.nm (M' := [_, .row _ _ _ _ _, .vw _ _, .vw _ _, .vw _ _, .vw _ _, .blk _ _ [_, _], .blk _ _ [_, _, _, _, _, _, _, _, _, _, _, _, _, _, _, _, _], .vw _ _]) hS rfl
   refine hK _ _ ?_; clear hK K
   refine wl_v (x_assign (tmI rfl (congrArg (fun q : Nat => Value.int .u16 (q : Int)) hWd))) ?_
   refine wl_nil ?_
   refine then_n (hK5 _ _ ?_); clear hK5 K5
   refine wp_seq_k ?_; intro K6 hK6
   refine wlit ?_
   refine wl_v (x_loadA (cs := [_, _, _, _, _, _, _, _, _, _, _, _, _, _, _, _, _]) Try.underlying69 rfl ts_69 (tmP rfl rfl) (rangeB hS.ok 7 rfl rfl)) ?_
   refine wl_v (x_move (tmI rfl rfl)) ?_
   refine wl_v (x_shrN (tmI rfl rfl) (ev_cN 15) (fit_u16 (by omega))) ?_
   first
    | refine wl_v (x_convN Try.underlying40 Try.underlying3 (tmI rfl rfl) (fit_i64 (by omega))) ?_
    | refine wl_v (x_conv Try.underlying40 Try.underlying3 (tmI rfl rfl)) ?_
   refine wl_e rfl ?_; intro K hK
   refine ow_call Try.func37 rfl rfl (evs_cons (tmA rfl rfl) <| evs_cons (tmI rfl rfl) <| evs_nil) (hA _) ?_
   rintro e w ⟨rfl, hk⟩
   refine ⟨_, rfl, ?_⟩
   replace hS := hS.kept hk
   clear hk
   refine hK _ _ ?_; clear hK K
   refine wl_v (x_move (tmT rfl rfl)) ?_
   refine wl_v (x_ext (tmT rfl rfl) rfl) ?_
   refine wl_v (x_ext (tmT rfl rfl) rfl) ?_
   refine wl_e rfl ?_; intro K hK
   refine ow_alloc hS tz_67 rfl ?_
   clear hS; intro g5_8 w hg5_8 hS
   refine hK _ _ ?_; clear hK K
   refine wl_e rfl ?_; intro K hK
   refine ow_storeA hS 0 rfl ts_67 (tmP rfl rfl) (tmA rfl rfl) rfl rfl rfl ?_
   clear hS; intro w hS
   try replace hS := St.nm (M' := [.blk _ _ [_, _, _, _, _, _, _, _, _, _, _, _, _, _, _, _], _, .row _ _ _ _ _, .vw _ _, .vw _ _, .vw _ _, .vw _ _, .blk _ _ [_, _], .blk _ _ [_, _, _, _, _, _, _, _, _, _, _, _, _, _, _, _, _], .vw _ _]) hS rfl
   refine hK _ _ ?_; clear hK K
   refine wl_v (x_assign (tmB rfl rfl)) ?_
   refine wl_nil ?_
   refine then_n (hK6 _ _ ?_); clear hK6 K6
   refine wp_seq_k ?_; intro K7 hK7
   refine wp_seq_k ?_; intro K8 hK8
   refine rg_startk 0 hS mixed_ ?_
   clear hS; intro w hS
   refine rg_take 0 rfl rfl (by kernel_rfl) (by kernel_rfl) (by kernel_rfl) (want_0) (fun w hok => x_move (tmB rfl rfl)) ?_
   refine rg_take 1 rfl rfl (by kernel_rfl) (by kernel_rfl) (by kernel_rfl) (want_0) (fun w hok => x_not (tmB rfl rfl)) ?_
   refine rg_take 2 rfl rfl (by kernel_rfl) (by kernel_rfl) (by kernel_rfl) (want_0) (fun w hok => x_move (tmB rfl rfl)) ?_
   refine gs_rg (tm (t := 34) rfl) (fun hg6_2 => ?_) (fun hg6_2 => ?_)
   · have hg6_2' := hg6_2; (try simp only [nrm] at hg6_2'); try (exfalso; first | with_reducible exact absurd hg6_2 Bool.false_ne_true | with_reducible exact absurd hg6_2.symm Bool.false_ne_true | omega | (simp at hg6_2; done))
     all_goals
      refine rg_skip 3 rfl rfl (by kernel_rfl) (by kernel_rfl) (by kernel_rfl) (want_n rfl rfl rfl rfl (by rw [hg6_2]; rfl)) ?_
      refine rg_skip 4 rfl rfl (by kernel_rfl) (by kernel_rfl) (by kernel_rfl) (want_n rfl rfl rfl rfl (by rw [hg6_2]; rfl)) ?_
      refine rg_skip 5 rfl rfl (by kernel_rfl) (by kernel_rfl) (by kernel_rfl) (want_n rfl rfl rfl rfl (by rw [hg6_2]; rfl)) ?_
      refine rg_skip 6 rfl rfl (by kernel_rfl) (by kernel_rfl) (by kernel_rfl) (want_n rfl rfl rfl rfl (by rw [hg6_2]; rfl)) ?_
      refine rg_skip 7 rfl rfl (by kernel_rfl) (by kernel_rfl) (by kernel_rfl) (want_n rfl rfl rfl rfl (by rw [hg6_2]; rfl)) ?_
      refine rg_skip 8 rfl rfl (by kernel_rfl) (by kernel_rfl) (by kernel_rfl) (want_n rfl rfl rfl rfl (by rw [hg6_2]; rfl)) ?_
      refine rg_skip 9 rfl rfl (by kernel_rfl) (by kernel_rfl) (by kernel_rfl) (want_n rfl rfl rfl rfl (by rw [hg6_2]; rfl)) ?_
      refine rg_skip 10 rfl rfl (by kernel_rfl) (by kernel_rfl) (by kernel_rfl) (want_n rfl rfl rfl rfl (by rw [hg6_2]; rfl)) ?_
      refine rg_skip 11 rfl rfl (by kernel_rfl) (by kernel_rfl) (by kernel_rfl) (want_n rfl rfl rfl rfl (by rw [hg6_2]; rfl)) ?_
      refine rg_take 12 rfl rfl (by kernel_rfl) (by kernel_rfl) (by kernel_rfl) (want_0) (fun w hok => x_pickT (tmB rfl rfl) hg6_2 ev_c) ?_
      refine rg_done (oks_drop hS 0 rfl) (by kernel_rfl) ?_
      refine then_n (hK8 _ _ ?_); clear hK8 K8
      refine cnd_t (tmB rfl rfl) rfl ?_
      refine wp_seq_k ?_; intro K9 hK9
      refine wlit ?_
      refine wl_v (x_build (bc_skip (.int .i64 0) <| bc_skip (.int .i64 0) <| bc_nil) (by kernel_rfl)) ?_
      refine wl_e rfl ?_; intro K hK
      refine ow_storeA hS 7 rfl ts_88 (tmP rfl rfl) (tmA rfl rfl) rfl rfl rfl ?_
      clear hS; intro w hS
      refine hK _ _ ?_; clear hK K
      refine wl_v (x_assign (ev_cN 0)) ?_
      refine wl_v (x_assign (ev_cN 26)) ?_
      refine wl_nil ?_
      refine then_n (hK9 _ _ ?_); clear hK9 K9
      refine wp_ret ?_
      refine then_r ?_
      refine ret3 rfl (.cell rfl rfl (load_rowB (cs := [_, _]) hS.ok 7 rfl Try.underlying88 rfl ts_88 rfl)) (.tmp rfl (show _ = Value.int _ _ from rfl)) (.tmp rfl (show _ = Value.int _ _ from rfl)) ?_
      refine ⟨?_, hS.kp⟩
      rcases hR with ⟨⟨h1, h2⟩, rfl, rfl, rfl⟩ | ⟨h1, rfl, rfl, rfl⟩
      · first
          | (exfalso; rw [h1] at hg6_2; exact absurd hg6_2 (by decide))
          | (exfalso; simp [h2] at hc1; done)
          | rfl
      · first
          | (exfalso; exact h1 ⟨by simpa using hg6_2, by simpa using hc1⟩)
          | rfl
   have hg6_2' := hg6_2; (try simp only [nrm] at hg6_2'); try (exfalso; first | with_reducible exact absurd hg6_2 Bool.false_ne_true | with_reducible exact absurd hg6_2.symm Bool.false_ne_true | omega | (simp at hg6_2; done))
   all_goals
    refine rg_take 3 rfl rfl (by kernel_rfl) (by kernel_rfl) (by kernel_rfl) (want_y rfl rfl rfl rfl (by rw [hg6_2]; rfl)) (fun w hok => x_loadA (cs := [_, _, _, _, _, _, _, _, _, _, _, _, _, _, _, _]) Try.underlying67 rfl ts_67 (tmP rfl rfl) (rangeB hok 0 rfl rfl)) ?_
    refine rg_take 4 rfl rfl (by kernel_rfl) (by kernel_rfl) (by kernel_rfl) (want_y rfl rfl rfl rfl (by rw [hg6_2]; rfl)) (fun w hok => x_move (tmS rfl rfl)) ?_
    refine rg_take 6 rfl rfl (by kernel_rfl) (by kernel_rfl) (by kernel_rfl) (want_y rfl rfl rfl rfl (by rw [hg6_2]; rfl)) (fun w hok => x_move (tmS rfl rfl)) ?_
    refine rg_take 7 rfl rfl (by kernel_rfl) (by kernel_rfl) (by kernel_rfl) (want_y rfl rfl rfl rfl (by rw [hg6_2]; rfl)) (fun w hok => x_move (tmS rfl rfl)) ?_
    refine rg_take 8 rfl rfl (by kernel_rfl) (by kernel_rfl) (by kernel_rfl) (want_y rfl rfl rfl rfl (by rw [hg6_2]; rfl)) (fun w hok => x_len Try.underlying22 (tmS rfl rfl)) ?_
    refine rg_take 9 rfl rfl (by kernel_rfl) (by kernel_rfl) (by kernel_rfl) (want_y rfl rfl rfl rfl (by rw [hg6_2]; rfl)) (fun w hok => x_sliceL Try.underlying22 ts_5 (tmS rfl rfl) (tmI rfl rfl) (by omega)) ?_
    refine rg_step 5 rfl (by kernel_rfl) (want_y rfl rfl rfl rfl (by rw [hg6_2]; rfl)) (oks_drop hS 0 rfl) ?_; intro K hK
    refine ow_call Try.func108 rfl rfl (evs_cons (tmA rfl rfl) <| evs_cons (tmS rfl rfl) <| evs_nil) (hT _ _ (viewV hS.ok 3 rfl)) ?_
    rintro e w ⟨gt, rfl, hn, hk⟩
    refine ⟨_, rfl, ?_⟩
    replace hS := hS.add hk hn -- +rowt
    clear hn hk
    refine hK _ _ ?_; clear hK K
    refine rg_step 10 rfl (by kernel_rfl) (want_y rfl rfl rfl rfl (by rw [hg6_2]; rfl)) (oks_drop hS 1 rfl) ?_; intro K hK
    refine ow_call Try.func113 rfl rfl (evs_cons (tmS rfl rfl) <| evs_cons (tmS rfl rfl) <| evs_nil) (equal_c _ _ _ _ _ _ tt (l.drop 7) _ (viewR hS.ok 0 rfl) (viewV hS.ok 6 rfl) hTl (by rw [List.length_drop]; omega) hTb (hb.drop 7)) ?_
    rintro e w ⟨rfl, hk⟩
    refine ⟨_, rfl, ?_⟩
    replace hS := hS.kept hk
    clear hk
    refine hK _ _ ?_; clear hK K
    refine rg_take 11 rfl rfl (by kernel_rfl) (by kernel_rfl) (by kernel_rfl) (want_y rfl rfl rfl rfl (by rw [hg6_2]; rfl)) (fun w hok => x_not (tmB rfl rfl)) ?_
    refine rg_take 12 rfl rfl (by kernel_rfl) (by kernel_rfl) (by kernel_rfl) (want_0) (fun w hok => x_pickF (tmB rfl rfl) hg6_2 (tmB rfl rfl)) ?_
    refine rg_done (oks_drop hS 1 rfl) (by kernel_rfl) ?_
    refine then_n (hK8 _ _ ?_); clear hK8 K8
    refine cnd (tm rfl) (fun hc1 => ?_) (fun hc1 => ?_)
    · try (exfalso; first | with_reducible exact absurd hc1 Bool.false_ne_true | with_reducible exact absurd hc1.symm Bool.false_ne_true | (simp only [nrm] at hc1; omega) | (simp at hc1; done))
      all_goals
       try simp only [nrm] at hc1
       refine wp_seq_k ?_; intro K11 hK11
       refine wlit ?_
       refine wl_v (x_build (bc_skip (.int .i64 0) <| bc_skip (.int .i64 0) <| bc_nil) (by kernel_rfl)) ?_
       refine wl_e rfl ?_; intro K hK
       refine ow_storeA hS 8 rfl ts_88 (tmP rfl rfl) (tmA rfl rfl) rfl rfl rfl ?_
       clear hS; intro w hS
       refine hK _ _ ?_; clear hK K
       refine wl_v (x_assign (ev_cN 0)) ?_
       refine wl_v (x_assign (ev_cN 26)) ?_
       refine wl_nil ?_
       refine then_n (hK11 _ _ ?_); clear hK11 K11
       refine wp_ret ?_
       refine then_r ?_
       refine ret3 rfl (.cell rfl rfl (load_rowB (cs := [_, _]) hS.ok 8 rfl Try.underlying88 rfl ts_88 rfl)) (.tmp rfl (show _ = Value.int _ _ from rfl)) (.tmp rfl (show _ = Value.int _ _ from rfl)) ?_
       refine ⟨?_, hS.kp⟩
       rcases hR with ⟨⟨h1, h2⟩, rfl, rfl, rfl⟩ | ⟨h1, rfl, rfl, rfl⟩
       · first
           | (exfalso; rw [h1] at hg6_2; exact absurd hg6_2 (by decide))
           | (exfalso; simp [h2] at hc1; done)
           | rfl
       · first
           | (exfalso; exact h1 ⟨by simpa using hg6_2, by simpa using hc1⟩)
           | rfl
    try (exfalso; first | with_reducible exact absurd hc1 Bool.false_ne_true | with_reducible exact absurd hc1.symm Bool.false_ne_true | (simp only [nrm] at hc1; omega) | (simp at hc1; done))
    all_goals
     try simp only [nrm] at hc1
     refine wp_skip ?_
     refine then_n (hK7 _ _ ?_); clear hK7 K7
     refine wp_seq_k ?_; intro K13 hK13
     refine wlit ?_
     refine wl_v (x_move (tmI rfl rfl)) ?_
     refine wl_v (x_loadA (cs := [_, _, _, _, _, _, _, _, _, _, _, _, _, _, _, _]) Try.underlying67 rfl ts_67 (tmP rfl rfl) (rangeB hS.ok 1 rfl rfl)) ?_
     refine wl_v (x_move (tmS rfl rfl)) ?_
     refine wl_e rfl ?_; intro K hK
     refine ow_call Try.func107 rfl rfl (evs_cons (tmA rfl rfl) <| evs_cons (tmS rfl rfl) <| evs_nil) (hM _ _ (viewV hS.ok 5 rfl)) ?_
     rintro e w ⟨rfl, hk⟩
     refine ⟨_, rfl, ?_⟩
     replace hS := hS.kept hk
     clear hk
     refine hK _ _ ?_; clear hK K
     refine wl_v (x_xorN (tmI rfl rfl) (tmI rfl rfl) (fit_u16 (by omega)) (fit_u16 (by omega))) ?_
     refine wl_e rfl ?_; intro K hK
     refine ow_call Try.func59 rfl rfl (evs_cons (tmI rfl rfl) <| evs_nil) (hof _) ?_
     rintro e w ⟨rfl, hk⟩
     refine ⟨_, rfl, ?_⟩
     replace hS := hS.kept hk
     clear hk
     refine hK _ _ ?_; clear hK K
     refine wl_v (x_move (tmS rfl rfl)) ?_
     refine wl_e rfl ?_; intro K hK
     refine ow_call Try.func100 rfl rfl (evs_cons (tmS rfl rfl) <| evs_nil) (read_c 5 _ _ (l.take 5) _ (viewV hS.ok 5 rfl) hl5 (by omega)) ?_
     rintro e w ⟨gr2, A02, rfl, hS2⟩
     refine ⟨_, rfl, ?_⟩
     replace hS := hS.adds hS2 rfl -- +gs,rows
     clear hS2
     refine hK _ _ ?_; clear hK K
     refine wl_e rfl ?_; intro K hK
     refine ow_call Try.func102 rfl rfl (evs_cons (tmP rfl rfl) <| evs_cons (ev_cN 5) <| evs_nil) (num_c gr2 A02 A02 0 5 5 5 (l.take 5) false _ _ (hS.enter [0] [1] rfl rfl) off_zero (by omega) (by omega) hl5 (hb.take 5) (by omega)) ?_
     rintro e w ⟨A3, c3, rfl, hS2, hA3, hcp3⟩
     refine ⟨_, rfl, ?_⟩
     replace hS := hS.turn 0 rfl rfl hS2 rfl
     clear hS2
     try replace hS := St.nm (M' := [_, .row _ _ _ _ _, .row _ _ _ _ _, .blk _ _ [_, _, _, _, _, _, _, _, _, _, _, _, _, _, _, _], _, .row _ _ _ _ _, .vw _ _, .vw _ _, .vw _ _, .vw _ _, .blk _ _ [_, _], .blk _ _ [_, _, _, _, _, _, _, _, _, _, _, _, _, _, _, _, _], .vw _ _]) hS rfl
     refine hK _ _ ?_; clear hK K
     refine wl_e rfl ?_; intro K hK
     refine ow_storeA hS 10 rfl ts_88 (tmP rfl rfl) (tmA rfl rfl) rfl rfl rfl ?_
     clear hS; intro w hS
     refine hK _ _ ?_; clear hK K
     refine wl_v (x_assign (tmI rfl (congrArg (fun q : Nat => Value.int .u64 (q : Int)) hN5))) ?_
     refine wl_v (x_assign (ev_cN 0)) ?_
     refine wl_nil ?_
     refine then_n (hK13 _ _ ?_); clear hK13 K13
     refine wp_ret ?_
     refine ret3 rfl (.cell rfl rfl (load_rowB (cs := [_, _]) hS.ok 10 rfl Try.underlying88 rfl ts_88 rfl)) (.tmp rfl (show _ = Value.int _ _ from rfl)) (.tmp rfl (show _ = Value.int _ _ from rfl)) ?_
     refine ⟨?_, hS.kp⟩
     rcases hR with ⟨⟨h1, h2⟩, rfl, rfl, rfl⟩ | ⟨h1, rfl, rfl, rfl⟩
     · first
         | (exfalso; rw [h1] at hg6_2; exact absurd hg6_2 (by decide))
         | (exfalso; simp [h2] at hc1; done)
         | rfl
     · first
         | (exfalso; exact h1 ⟨by simpa using hg6_2, by simpa using hc1⟩)
         | rfl
set_option maxRecDepth 100000 in
set_option maxHeartbeats 4000000 in
theorem rcid_read_c (k : Nat → Nat) (u : Nat) (A : Option Addr) (c : Nat) (l : List Nat) (w0 : World) (hkb : Bytes (kL k)) (hu : u ≤ 18446744073709551615) (hv : View w0 w0.heap.size A (l.map u8v)) (hl : l.length = 12) (hc : 12 ≤ c) (hb : Bytes l) (x o e0 : Nat) (hR : (tagOk k u l ∧ x = idX k u l ∧ o = numBE (l.take 5) ∧ e0 = 0) ∨ (¬ tagOk k u l ∧ x = 0 ∧ o = 0 ∧ e0 = 26)) :
    Calls Try.prog 52 #[.agg (rgC k u).toArray, .slice A 12 c] w0 fun e w' => e = .returned (.tuple #[.int .i64 ((x / 4096 % 8 : Nat) : Int), .int .i64 ((x % 4096 : Nat) : Int), .int .u64 (o : Int), .int .i64 (e0 : Int)]) ∧ Kp [] w0 w' := by
  have hS := (St.sv w0).vcons rfl hv
  have hl5 : (l.take 5).length = 5 := by rw [List.length_take]; omega
  have hl7 : (l.take 7).length = 7 := by rw [List.length_take]; omega
  have hd7 : ((l.drop 5).take 7).length = 7 := by rw [List.length_take, List.length_drop]; omega
  have hd5 : ((l.drop 7).take 5).length = 5 := by rw [List.length_take, List.length_drop]; omega
  have he5 : (l.drop 7).take 5 = l.drop 7 := List.take_of_length_le (by rw [List.length_drop]; omega)
  have hWd : getN ((l.drop 5).take 7) 0 2 = getN l 5 2 := by unfold getN; rw [List.drop_zero, List.take_take]; rfl
  have hWb : getN l 5 2 < 256 ^ 2 := getN_lt hb 5 2
  have hN5 : numBE (((l.take 5).drop 0).take 5) = numBE (l.take 5) := by rw [List.drop_zero, List.take_of_length_le (by omega)]
  have hNb : numBE (l.take 5) < 256 ^ (l.take 5).length := numBE_lt' (hb.take 5)
  rw [hl5] at hNb
  have hKb : Bytes (kL (atK k u ((getN l 5 2 / 32768 : Nat) : Int))) := atK_bytes
  have hm := cmaskN_lt (atK k u ((getN l 5 2 / 32768 : Nat) : Int)) (l.take 5)
  have hxb : getN l 5 2 ^^^ cmaskN (atK k u ((getN l 5 2 / 32768 : Nat) : Int)) (l.take 5) < 2 ^ 16 := Nat.xor_lt_two_pow (by omega) (by omega)
  have hxm : getN l 5 2 % 32768 ^^^ cmaskN (atK k u ((getN l 5 2 / 32768 : Nat) : Int)) (l.take 5) = (getN l 5 2 ^^^ cmaskN (atK k u ((getN l 5 2 / 32768 : Nat) : Int)) (l.take 5)) % 32768 := by
    have h := Nat.xor_mod_two_pow (a := getN l 5 2) (b := cmaskN (atK k u ((getN l 5 2 / 32768 : Nat) : Int)) (l.take 5)) (n := 15)
    rw [Nat.mod_eq_of_lt (show cmaskN (atK k u ((getN l 5 2 / 32768 : Nat) : Int)) (l.take 5) < 2 ^ 15 by omega)] at h
    exact h.symm
  have hA := fun w => rring_at_b k u (getN l 5 2 / 32768) w hkb hu (by omega)
  have hG := fun w hv => get_c 12 A c l 5 2 w hv hl hc (by omega) hb (by omega) (by omega)
  unfold tagOk idX at hR
  generalize hww : getN l 5 2 = ww at *
  generalize hkk : atK k u ((ww / 32768 : Nat) : Int) = kk at *
  generalize hbb : atB u ((ww / 32768 : Nat) : Int) = bb at *
  have hT := fun A w hv => rcid_tag_c kk A 7 c (l.take 7) w hKb hv hl7 (hb.take 7) (by omega)
  have hM := fun A w hv => rcid_hidden_c kk A 5 c (l.take 5) ww w hKb hv hl5 (hb.take 5) (by omega) (by omega)
  have hTb : Bytes (ctagB kk (l.take 7)) := be_bytes _ _
  have hTl : (ctagB kk (l.take 7)).length = 5 := be_length _ _
  generalize ctagB kk (l.take 7) = tt at *
  generalize cmaskN kk (l.take 5) = m at *
  rw [hxm] at hM
  have hp1 : (ww ^^^ m) % 32768 / 4096 = (ww ^^^ m) / 4096 % 8 := by omega
  have hp2 : (ww ^^^ m) % 32768 % 4096 = (ww ^^^ m) % 4096 := by omega
  have hNu := fun A w hv => rnum_c 5 A c (l.take 5) w hv hl5 (hb.take 5) (by omega)
  have hbd7 : Bytes (l.drop 7) := hb.drop 7
  have hld7 : (l.drop 7).length = 5 := by rw [List.length_drop]; omega
  generalize numBE (l.take 5) = oo at *
  generalize ww ^^^ m = xx at *
  refine ent (n := 52) Try.func52 rfl rfl ?_
  refine wp_seq_k ?_; intro K1 hK1
  refine wlit ?_
  refine wl_e rfl ?_; intro K hK
  refine ow_box hS (tmA rfl rfl) rfl ?_
  clear hS; intro g0_0 w hg0_0 hS
  refine hK _ _ ?_; clear hK K
  refine wl_v (x_assign (ev_cN 0)) ?_
  refine wl_v (x_assign (ev_cN 0)) ?_
  refine wl_v (x_assign (ev_cN 0)) ?_
  refine wl_v (x_assign (ev_cN 0)) ?_
  refine wl_nil ?_
  refine then_n (hK1 _ _ ?_); clear hK1 K1
  refine wp_seq_k ?_; intro K2 hK2
  refine wp_seq_k ?_; intro K3 hK3
  refine wlit ?_
  refine wl_v (x_move (tmS rfl rfl)) ?_
  refine wl_v (x_len Try.underlying22 (tmS rfl rfl)) ?_
  refine wl_v (x_neq (tmI rfl rfl) (ev_cN 12)) ?_
  refine wl_nil ?_
  refine then_n (hK3 _ _ ?_); clear hK3 K3
  refine cnd (tm rfl) (fun hc0 => ?_) (fun hc0 => ?_)
  · exfalso
    simp at hc0
  try (exfalso; first | with_reducible exact absurd hc0 Bool.false_ne_true | with_reducible exact absurd hc0.symm Bool.false_ne_true | (simp only [nrm] at hc0; omega) | (simp at hc0; done))
  all_goals
   try simp only [nrm] at hc0
   refine wp_skip ?_
   refine then_n (hK2 _ _ ?_); clear hK2 K2
   refine wp_seq_k ?_; intro K4 hK4
   refine wlit ?_
   refine wl_v (x_move (tmS rfl rfl)) ?_
   refine wl_e rfl ?_; intro K hK
   refine ow_call Try.func114 rfl rfl (evs_cons (tmS rfl rfl) <| evs_cons (ev_cN 5) <| evs_cons (ev_cN 2) <| evs_nil) (hG _ (viewV hS.ok 1 rfl)) ?_
   rintro e w ⟨rfl, hk⟩
   refine ⟨_, rfl, ?_⟩
   replace hS := hS.kept hk
   clear hk
   refine hK _ _ ?_; clear hK K
   first
    | refine wl_v (x_convN Try.underlying24 Try.underlying40 (tmI rfl rfl) (fit_u16 (by omega))) ?_
    | refine wl_v (x_convU Try.underlying24 Try.underlying40 (tmI rfl rfl) rfl) ?_
    | refine wl_v (x_conv Try.underlying24 Try.underlying40 (tmI rfl rfl)) ?_
   refine wl_v (x_assign (tmI rfl rfl)) ?_
   refine wl_nil ?_
   refine then_n (hK4 _ _ ?_); clear hK4 K4
   refine wp_seq_k ?_; intro K5 hK5
   refine wlit ?_
   refine wl_v (x_loadA (cs := [_, _, _, _, _, _, _, _, _, _, _, _, _, _, _, _, _]) Try.underlying66 rfl ts_66 (tmP rfl rfl) (rangeB hS.ok 0 rfl rfl)) ?_
   refine wl_v (x_move (tmI rfl rfl)) ?_
   first
    | refine wl_v (x_quoN (tmI rfl rfl) (ev_cN 32768) (by omega) (fit_u16 (by omega))) ?_
    | refine wl_v (x_quo (tmI rfl rfl) (ev_cN 32768) (by omega)) ?_
   first
    | refine wl_v (x_convN Try.underlying40 Try.underlying3 (tmI rfl rfl) (fit_i64 (by omega))) ?_
    | refine wl_v (x_conv Try.underlying40 Try.underlying3 (tmI rfl rfl)) ?_
   refine wl_e rfl ?_; intro K hK
   refine ow_call Try.func38 rfl rfl (evs_cons (tmA rfl rfl) <| evs_cons (tmI rfl rfl) <| evs_nil) (hA _) ?_
   rintro e w ⟨rfl, hk⟩
   refine ⟨_, rfl, ?_⟩
   replace hS := hS.kept hk
   clear hk
   refine hK _ _ ?_; clear hK K
   refine wl_v (x_move (tmT rfl rfl)) ?_
   refine wl_v (x_ext (tmT rfl rfl) rfl) ?_
   refine wl_v (x_ext (tmT rfl rfl) rfl) ?_
   refine wl_e rfl ?_; intro K hK
   refine ow_alloc hS tz_64 rfl ?_
   clear hS; intro g4_8 w hg4_8 hS
   refine hK _ _ ?_; clear hK K
   refine wl_e rfl ?_; intro K hK
   refine ow_storeA hS 0 rfl ts_64 (tmP rfl rfl) (tmA rfl rfl) rfl rfl rfl ?_
   clear hS; intro w hS
   try replace hS := St.nm (M' := [.blk _ _ [_, _, _, _, _, _, _, _, _, _, _, _, _, _, _, _], .blk _ _ [_, _, _, _, _, _, _, _, _, _, _, _, _, _, _, _, _], .vw _ _]) hS rfl
   refine hK _ _ ?_; clear hK K
   refine wl_v (x_assign (tmB rfl rfl)) ?_
   refine wl_nil ?_
   refine then_n (hK5 _ _ ?_); clear hK5 K5
   refine wp_seq_k ?_; intro K6 hK6
   refine wp_seq_k ?_; intro K7 hK7
   replace hS := hS.cutb 2 7 5 rfl (by omega : l.length ≤ c)
   rw [he5] at hS
   replace hS := hS.cutb 3 0 5 rfl (by omega : l.length ≤ c)
   replace hS := hS.cutb 4 0 7 rfl (by omega : l.length ≤ c)
   refine rg_startk 0 hS mixed_ ?_
   clear hS; intro w hS
   refine rg_take 0 rfl rfl (by kernel_rfl) (by kernel_rfl) (by kernel_rfl) (want_0) (fun w hok => x_move (tmB rfl rfl)) ?_
   refine rg_take 1 rfl rfl (by kernel_rfl) (by kernel_rfl) (by kernel_rfl) (want_0) (fun w hok => x_not (tmB rfl rfl)) ?_
   refine rg_take 2 rfl rfl (by kernel_rfl) (by kernel_rfl) (by kernel_rfl) (want_0) (fun w hok => x_move (tmB rfl rfl)) ?_
   refine gs_rg (tm (t := 28) rfl) (fun hg5_2 => ?_) (fun hg5_2 => ?_)
   · have hg5_2' := hg5_2; (try simp only [nrm] at hg5_2'); try (exfalso; first | with_reducible exact absurd hg5_2 Bool.false_ne_true | with_reducible exact absurd hg5_2.symm Bool.false_ne_true | omega | (simp at hg5_2; done))
     all_goals
      refine rg_skip 3 rfl rfl (by kernel_rfl) (by kernel_rfl) (by kernel_rfl) (want_n rfl rfl rfl rfl (by rw [hg5_2]; rfl)) ?_
      refine rg_skip 4 rfl rfl (by kernel_rfl) (by kernel_rfl) (by kernel_rfl) (want_n rfl rfl rfl rfl (by rw [hg5_2]; rfl)) ?_
      refine rg_skip 5 rfl rfl (by kernel_rfl) (by kernel_rfl) (by kernel_rfl) (want_n rfl rfl rfl rfl (by rw [hg5_2]; rfl)) ?_
      refine rg_skip 6 rfl rfl (by kernel_rfl) (by kernel_rfl) (by kernel_rfl) (want_n rfl rfl rfl rfl (by rw [hg5_2]; rfl)) ?_
      refine rg_skip 7 rfl rfl (by kernel_rfl) (by kernel_rfl) (by kernel_rfl) (want_n rfl rfl rfl rfl (by rw [hg5_2]; rfl)) ?_
      refine rg_skip 8 rfl rfl (by kernel_rfl) (by kernel_rfl) (by kernel_rfl) (want_n rfl rfl rfl rfl (by rw [hg5_2]; rfl)) ?_
      refine rg_skip 9 rfl rfl (by kernel_rfl) (by kernel_rfl) (by kernel_rfl) (want_n rfl rfl rfl rfl (by rw [hg5_2]; rfl)) ?_
      refine rg_skip 10 rfl rfl (by kernel_rfl) (by kernel_rfl) (by kernel_rfl) (want_n rfl rfl rfl rfl (by rw [hg5_2]; rfl)) ?_
      refine rg_skip 11 rfl rfl (by kernel_rfl) (by kernel_rfl) (by kernel_rfl) (want_n rfl rfl rfl rfl (by rw [hg5_2]; rfl)) ?_
      refine rg_take 12 rfl rfl (by kernel_rfl) (by kernel_rfl) (by kernel_rfl) (want_0) (fun w hok => x_pickT (tmB rfl rfl) hg5_2 ev_c) ?_
      refine rg_done (oks_drop hS 0 rfl) (by kernel_rfl) ?_
      refine then_n (hK7 _ _ ?_); clear hK7 K7
      refine cnd_t (tmB rfl rfl) rfl ?_
      refine wp_seq_k ?_; intro K8 hK8
      refine wlit ?_
      refine wl_v (x_assign (ev_cN 0)) ?_
      refine wl_v (x_assign (ev_cN 0)) ?_
      refine wl_v (x_assign (ev_cN 0)) ?_
      refine wl_v (x_assign (ev_cN 26)) ?_
      refine wl_nil ?_
      refine then_n (hK8 _ _ ?_); clear hK8 K8
      refine wp_ret ?_
      refine then_r ?_
      refine ret4 rfl (.tmp rfl (show _ = Value.int _ _ from rfl)) (.tmp rfl (show _ = Value.int _ _ from rfl)) (.tmp rfl (show _ = Value.int _ _ from rfl)) (.tmp rfl (show _ = Value.int _ _ from rfl)) ?_
      refine ⟨?_, hS.kp⟩
      rcases hR with ⟨⟨h1, h2⟩, rfl, rfl, rfl⟩ | ⟨h1, rfl, rfl, rfl⟩
      · first
          | (exfalso; rw [h1] at hg5_2; exact absurd hg5_2 (by decide))
          | (exfalso; simp [h2] at hc1; done)
          | rfl
      · first
          | (exfalso; exact h1 ⟨by simpa using hg5_2, by simpa using hc1⟩)
          | rfl
   have hg5_2' := hg5_2; (try simp only [nrm] at hg5_2'); try (exfalso; first | with_reducible exact absurd hg5_2 Bool.false_ne_true | with_reducible exact absurd hg5_2.symm Bool.false_ne_true | omega | (simp at hg5_2; done))
   all_goals
    refine rg_take 3 rfl rfl (by kernel_rfl) (by kernel_rfl) (by kernel_rfl) (want_y rfl rfl rfl rfl (by rw [hg5_2]; rfl)) (fun w hok => x_loadA (cs := [_, _, _, _, _, _, _, _, _, _, _, _, _, _, _, _]) Try.underlying64 rfl ts_64 (tmP rfl rfl) (rangeB hok 3 rfl rfl)) ?_
    refine rg_take 4 rfl rfl (by kernel_rfl) (by kernel_rfl) (by kernel_rfl) (want_y rfl rfl rfl rfl (by rw [hg5_2]; rfl)) (fun w hok => x_move (tmS rfl rfl)) ?_
    refine rg_take 5 rfl rfl (by kernel_rfl) (by kernel_rfl) (by kernel_rfl) (want_y rfl rfl rfl rfl (by rw [hg5_2]; rfl)) (fun w hok => x_sliceH Try.underlying22 ts_5 (tmS rfl rfl) (ev_cN 7) (by omega)) ?_
    refine rg_take 8 rfl rfl (by kernel_rfl) (by kernel_rfl) (by kernel_rfl) (want_y rfl rfl rfl rfl (by rw [hg5_2]; rfl)) (fun w hok => x_move (tmS rfl rfl)) ?_
    refine rg_take 9 rfl rfl (by kernel_rfl) (by kernel_rfl) (by kernel_rfl) (want_y rfl rfl rfl rfl (by rw [hg5_2]; rfl)) (fun w hok => x_sliceL Try.underlying22 ts_5 (tmS rfl rfl) (ev_cN 7) (by omega)) ?_
    first
     | refine rg_take 10 rfl rfl (by kernel_rfl) (by kernel_rfl) (by kernel_rfl) (want_y rfl rfl rfl rfl (by rw [hg5_2]; rfl)) (fun w hok => x_bstr Try.underlying22 Try.underlying5 Try.underlying9 (tmS rfl rfl) (viewV hok 0 rfl) (by first | assumption | exact Bytes.nil | (repeat' (first | assumption | exact Bytes.nil | exact be_bytes _ _ | apply Bytes.append | apply Bytes.take | apply Bytes.drop | apply Bytes.replicate))) (by first | rfl | assumption | (simp; done) | (simp; omega) | omega)) ?_
     | refine rg_take 10 rfl rfl (by kernel_rfl) (by kernel_rfl) (by kernel_rfl) (want_y rfl rfl rfl rfl (by rw [hg5_2]; rfl)) (fun w hok => x_bstr Try.underlying22 Try.underlying5 Try.underlying9 (tmS rfl rfl) (viewV hok 1 rfl) (by first | assumption | exact Bytes.nil | (repeat' (first | assumption | exact Bytes.nil | exact be_bytes _ _ | apply Bytes.append | apply Bytes.take | apply Bytes.drop | apply Bytes.replicate))) (by first | rfl | assumption | (simp; done) | (simp; omega) | omega)) ?_
     | refine rg_take 10 rfl rfl (by kernel_rfl) (by kernel_rfl) (by kernel_rfl) (want_y rfl rfl rfl rfl (by rw [hg5_2]; rfl)) (fun w hok => x_bstr Try.underlying22 Try.underlying5 Try.underlying9 (tmS rfl rfl) (viewV hok 2 rfl) (by first | assumption | exact Bytes.nil | (repeat' (first | assumption | exact Bytes.nil | exact be_bytes _ _ | apply Bytes.append | apply Bytes.take | apply Bytes.drop | apply Bytes.replicate))) (by first | rfl | assumption | (simp; done) | (simp; omega) | omega)) ?_
     | refine rg_take 10 rfl rfl (by kernel_rfl) (by kernel_rfl) (by kernel_rfl) (want_y rfl rfl rfl rfl (by rw [hg5_2]; rfl)) (fun w hok => x_bstr Try.underlying22 Try.underlying5 Try.underlying9 (tmS rfl rfl) (viewV hok 5 rfl) (by first | assumption | exact Bytes.nil | (repeat' (first | assumption | exact Bytes.nil | exact be_bytes _ _ | apply Bytes.append | apply Bytes.take | apply Bytes.drop | apply Bytes.replicate))) (by first | rfl | assumption | (simp; done) | (simp; omega) | omega)) ?_
     | refine rg_take 10 rfl rfl (by kernel_rfl) (by kernel_rfl) (by kernel_rfl) (want_y rfl rfl rfl rfl (by rw [hg5_2]; rfl)) (fun w hok => x_bstr (l := []) Try.underlying22 Try.underlying5 Try.underlying9 (tmS rfl rfl) View.nil_ (by first | assumption | exact Bytes.nil | (repeat' (first | assumption | exact Bytes.nil | exact be_bytes _ _ | apply Bytes.append | apply Bytes.take | apply Bytes.drop | apply Bytes.replicate))) (by first | rfl | assumption | (simp; done) | (simp; omega) | omega)) ?_
    refine rg_step 6 rfl (by kernel_rfl) (want_y rfl rfl rfl rfl (by rw [hg5_2]; rfl)) (oks_drop hS 0 rfl) ?_; intro K hK
    refine ow_call Try.func111 rfl rfl (evs_cons (tmA rfl rfl) <| evs_cons (tmS rfl rfl) <| evs_nil) (hT _ _ (viewV hS.ok 0 rfl)) ?_
    rintro e w ⟨gt, rfl, hn, hk⟩
    refine ⟨_, rfl, ?_⟩
    replace hS := hS.add hk hn -- +rowt
    clear hn hk
    refine hK _ _ ?_; clear hK K
    refine rg_step 7 rfl (by kernel_rfl) (want_y rfl rfl rfl rfl (by rw [hg5_2]; rfl)) (oks_drop hS 1 rfl) ?_; intro K hK
    refine ow_v (x_bstr Try.underlying22 Try.underlying5 Try.underlying9 (tmS rfl rfl) (viewR hS.ok 0 rfl) hTb hTl) ?_
    refine hK _ _ ?_; clear hK K
    refine rg_take 11 rfl rfl (by kernel_rfl) (by kernel_rfl) (by kernel_rfl) (want_y rfl rfl rfl rfl (by rw [hg5_2]; rfl)) (fun w hok => x_Gneq (tmG rfl rfl) (tmG rfl rfl) (by first | assumption | exact Bytes.nil | (repeat' (first | assumption | exact Bytes.nil | exact be_bytes _ _ | apply Bytes.append | apply Bytes.take | apply Bytes.drop | apply Bytes.replicate))) (by first | assumption | exact Bytes.nil | (repeat' (first | assumption | exact Bytes.nil | exact be_bytes _ _ | apply Bytes.append | apply Bytes.take | apply Bytes.drop | apply Bytes.replicate)))) ?_
    refine rg_take 12 rfl rfl (by kernel_rfl) (by kernel_rfl) (by kernel_rfl) (want_0) (fun w hok => x_pickF (tmB rfl rfl) hg5_2 (tmB rfl rfl)) ?_
    refine rg_done (oks_drop hS 1 rfl) (by kernel_rfl) ?_
    refine then_n (hK7 _ _ ?_); clear hK7 K7
    refine cnd (tm rfl) (fun hc1 => ?_) (fun hc1 => ?_)
    · try (exfalso; first | with_reducible exact absurd hc1 Bool.false_ne_true | with_reducible exact absurd hc1.symm Bool.false_ne_true | (simp only [nrm] at hc1; omega) | (simp at hc1; done))
      all_goals
       try simp only [nrm] at hc1
       refine wp_seq_k ?_; intro K9 hK9
       refine wlit ?_
       refine wl_v (x_assign (ev_cN 0)) ?_
       refine wl_v (x_assign (ev_cN 0)) ?_
       refine wl_v (x_assign (ev_cN 0)) ?_
       refine wl_v (x_assign (ev_cN 26)) ?_
       refine wl_nil ?_
       refine then_n (hK9 _ _ ?_); clear hK9 K9
       refine wp_ret ?_
       refine then_r ?_
       refine ret4 rfl (.tmp rfl (show _ = Value.int _ _ from rfl)) (.tmp rfl (show _ = Value.int _ _ from rfl)) (.tmp rfl (show _ = Value.int _ _ from rfl)) (.tmp rfl (show _ = Value.int _ _ from rfl)) ?_
       refine ⟨?_, hS.kp⟩
       rcases hR with ⟨⟨h1, h2⟩, rfl, rfl, rfl⟩ | ⟨h1, rfl, rfl, rfl⟩
       · first
           | (exfalso; rw [h1] at hg5_2; exact absurd hg5_2 (by decide))
           | (exfalso; simp [h2] at hc1; done)
           | rfl
       · first
           | (exfalso; exact h1 ⟨by simpa using hg5_2, by simpa using hc1⟩)
           | rfl
    try (exfalso; first | with_reducible exact absurd hc1 Bool.false_ne_true | with_reducible exact absurd hc1.symm Bool.false_ne_true | (simp only [nrm] at hc1; omega) | (simp at hc1; done))
    all_goals
     try simp only [nrm] at hc1
     refine wp_skip ?_
     refine then_n (hK6 _ _ ?_); clear hK6 K6
     refine wp_seq_k ?_; intro K10 hK10
     refine rg_startk 0 hS mixed_ ?_
     clear hS; intro w hS
     refine rg_take 0 rfl rfl (by kernel_rfl) (by kernel_rfl) (by kernel_rfl) (want_0) (fun w hok => x_loadA (cs := [_, _, _, _, _, _, _, _, _, _, _, _, _, _, _, _]) Try.underlying64 rfl ts_64 (tmP rfl rfl) (rangeB hok 4 rfl rfl)) ?_
     refine rg_take 1 rfl rfl (by kernel_rfl) (by kernel_rfl) (by kernel_rfl) (want_0) (fun w hok => x_move (tmS rfl rfl)) ?_
     refine rg_take 2 rfl rfl (by kernel_rfl) (by kernel_rfl) (by kernel_rfl) (want_0) (fun w hok => x_sliceH Try.underlying22 ts_5 (tmS rfl rfl) (ev_cN 5) (by omega)) ?_
     refine rg_take 3 rfl rfl (by kernel_rfl) (by kernel_rfl) (by kernel_rfl) (want_0) (fun w hok => x_move (tmI rfl rfl)) ?_
     refine rg_step 4 rfl (by kernel_rfl) (want_0) (oks_drop hS 0 rfl) ?_; intro K hK
     refine ow_call Try.func110 rfl rfl (evs_cons (tmA rfl rfl) <| evs_cons (tmS rfl rfl) <| evs_cons (tmI rfl rfl) <| evs_nil) (hM _ _ (viewV hS.ok 2 rfl)) ?_
     rintro e w ⟨rfl, hk⟩
     refine ⟨_, rfl, ?_⟩
     replace hS := hS.kept hk
     clear hk
     refine hK _ _ ?_; clear hK K
     first
      | refine rg_take 5 rfl rfl (by kernel_rfl) (by kernel_rfl) (by kernel_rfl) (want_0) (fun w hok => x_convN Try.underlying40 Try.underlying3 (tmI rfl rfl) (fit_i64 (by omega))) ?_
      | refine rg_take 5 rfl rfl (by kernel_rfl) (by kernel_rfl) (by kernel_rfl) (want_0) (fun w hok => x_conv Try.underlying40 Try.underlying3 (tmI rfl rfl)) ?_
     refine rg_take 6 rfl rfl (by kernel_rfl) (by kernel_rfl) (by kernel_rfl) (want_0) (fun w hok => x_assign (tmI rfl rfl)) ?_
     refine rg_done (oks_drop hS 0 rfl) (by kernel_rfl) ?_
     refine then_n (hK10 _ _ ?_); clear hK10 K10
     refine wp_seq_k ?_; intro K11 hK11
     refine wlit ?_
     refine wl_v (x_move (tmI rfl rfl)) ?_
     first
      | refine wl_v (x_quoN (tmI rfl rfl) (ev_cN 4096) (by omega) (fit_i64 (by omega))) ?_
      | refine wl_v (x_quo (tmI rfl rfl) (ev_cN 4096) (by omega)) ?_
     refine wl_v (x_move (tmI rfl rfl)) ?_
     first
      | refine wl_v (x_remN (tmI rfl rfl) (ev_cN 4096) (by omega)) ?_
      | refine wl_v (x_rem (tmI rfl rfl) (ev_cN 4096) (by omega)) ?_
     refine wl_v (x_move (tmS rfl rfl)) ?_
     refine wl_v (x_sliceH Try.underlying22 ts_5 (tmS rfl rfl) (ev_cN 5) (by omega)) ?_
     refine wl_e rfl ?_; intro K hK
     refine ow_call Try.func104 rfl rfl (evs_cons (tmS rfl rfl) <| evs_nil) (hNu _ _ (viewV hS.ok 2 rfl)) ?_
     rintro e w ⟨rfl, hk⟩
     refine ⟨_, rfl, ?_⟩
     replace hS := hS.kept hk
     clear hk
     refine hK _ _ ?_; clear hK K
     refine wl_v (x_assign (tmI rfl (congrArg (fun q : Nat => Value.int .i64 (q : Int)) hp1))) ?_
     refine wl_v (x_assign (tmI rfl (congrArg (fun q : Nat => Value.int .i64 (q : Int)) hp2))) ?_
     refine wl_v (x_assign (tmI rfl rfl)) ?_
     refine wl_v (x_assign (ev_cN 0)) ?_
     refine wl_nil ?_
     refine then_n (hK11 _ _ ?_); clear hK11 K11
     refine wp_ret ?_
     refine ret4 rfl (.tmp rfl (show _ = Value.int _ _ from rfl)) (.tmp rfl (show _ = Value.int _ _ from rfl)) (.tmp rfl (show _ = Value.int _ _ from rfl)) (.tmp rfl (show _ = Value.int _ _ from rfl)) ?_
     refine ⟨?_, hS.kp⟩
     rcases hR with ⟨⟨h1, h2⟩, rfl, rfl, rfl⟩ | ⟨h1, rfl, rfl, rfl⟩
     · first
         | (exfalso; rw [h1] at hg5_2; exact absurd hg5_2 (by decide))
         | (exfalso; simp [h2] at hc1; done)
         | rfl
     · first
         | (exfalso; exact h1 ⟨by simpa using hg5_2, by simpa using hc1⟩)
         | rfl
end Go.Proofs.Ytilgolflpdpfnaa
