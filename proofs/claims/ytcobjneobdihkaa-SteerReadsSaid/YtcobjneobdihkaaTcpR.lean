/- tcp: the reference's Parse, by contract. Conditions: none but bounds. -/
import Derived.Test.YtcobjneobdihkaaTcp
namespace Go.Proofs.Ytcobjneobdihkaa
open Go.RowKit

set_option maxRecDepth 100000 in
set_option maxHeartbeats 4000000 in
theorem rtcp_parse_bad (n : Nat) (A : Option Addr) (c : Nat) (l : List Nat) (w0 : World) (hv : View w0 w0.heap.size A (l.map u8v)) (hl : l.length = n) (hb : Bytes l) (hn4 : n ≤ 1000000)
    (sz er : Nat) (hsz : sz = nth l 12 / 16 * 4) (h : (n < 20 ∧ er = 20) ∨ (20 ≤ n ∧ (sz < 20 ∨ nth l 12 % 16 ≠ 0) ∧ er = 21) ∨ (20 ≤ n ∧ 20 ≤ sz ∧ nth l 12 % 16 = 0 ∧ n < sz ∧ er = 20)) :
    Calls Try.prog 19 #[.slice A n c] w0 fun e w' => e = .returned (.tuple #[.agg (segV 0 0 0 0 0 0 0 0 none 0 0 none 0 0).toArray, .int .i64 (er : Int)]) ∧ Kp [] w0 w' := by
  have hS := (St.sv w0).vcons rfl hv
  have hqb := nth_lt hb 12
  by_cases h20 : n < 20
  · skip
    refine ent (n := 69) Try.func19 rfl rfl ?_
    refine wp_seq_k ?_; intro K1 hK1
    refine wlit ?_
    refine wl_e rfl ?_; intro K hK
    refine ow_alloc hS tz_40 rfl ?_
    clear hS; intro g0_0 w hg0_0 hS
    refine hK _ _ ?_; clear hK K
    refine wl_v (x_assign (ev_cN 0)) ?_
    refine wl_nil ?_
    refine then_n (hK1 _ _ ?_); clear hK1 K1
    refine wp_seq_k ?_; intro K2 hK2
    refine wp_seq_k ?_; intro K3 hK3
    refine wlit ?_
    refine wl_v (x_move (tmS rfl rfl)) ?_
    refine wl_v (x_len Try.underlying22 (tmS rfl rfl)) ?_
    refine wl_v (x_lss (tmI rfl rfl) (ev_cN 20)) ?_
    refine wl_nil ?_
    refine then_n (hK3 _ _ ?_); clear hK3 K3
    refine cnds (tm rfl) (fun hc0 => ?_) (fun hc0 => ?_)
    · exfalso
      simp at hc0
      omega
    all_goals
     try simp only [nrm] at hc0
     refine wp_seq_k ?_; intro K4 hK4
     refine wlit ?_
     refine wl_v (x_build (bc_skip (.int .u16 0) <| bc_skip (.int .u16 0) <| bc_skip (.int .u32 0) <| bc_skip (.int .u32 0) <| bc_skip (.int .u8 0) <| bc_skip (.int .u16 0) <| bc_skip (.int .u16 0) <| bc_skip (.int .u16 0) <| bc_skip (.slice none 0 0) <| bc_skip (.slice none 0 0) <| bc_nil) (by kernel_rfl)) ?_
     refine wl_e rfl ?_; intro K hK
     refine ow_storeA hS 0 rfl ts_40 (tmP rfl rfl) (tmA rfl rfl) rfl rfl rfl ?_
     clear hS; intro w hS
     try replace hS := St.nm (M' := [.blk _ _ [_, _, _, _, _, _, _, _, _, _], .vw _ _]) hS rfl
     refine hK _ _ ?_; clear hK K
     refine wl_v (x_assign (ev_cN 20)) ?_
     refine wl_nil ?_
     refine then_n (hK4 _ _ ?_); clear hK4 K4
     refine wp_ret ?_
     refine then_r ?_
     refine ret2 rfl (.cell rfl rfl (load_rowB (cs := [_, _, _, _, _, _, _, _, _, _]) hS.ok 0 rfl Try.underlying40 rfl ts_40 rfl)) (.tmp rfl (show _ = Value.int _ _ from rfl)) ?_
     obtain rfl : er = 20 := by omega
     exact ⟨rfl, hS.kp⟩
  have hz : nth l 12 / 16 * 4 = sz := hsz.symm
  have hqb2 : l.getD 12 0 < 256 := nth_lt hb 12
  obtain ⟨b4, o4, rfl⟩ := view_some hv (by rw [List.length_map]; omega)
  refine ent (n := 69) Try.func19 rfl rfl ?_
  refine wp_seq_k ?_; intro K1 hK1
  refine wlit ?_
  refine wl_e rfl ?_; intro K hK
  refine ow_alloc hS tz_40 rfl ?_
  clear hS; intro g0_0 w hg0_0 hS
  refine hK _ _ ?_; clear hK K
  refine wl_v (x_assign (ev_cN 0)) ?_
  refine wl_nil ?_
  refine then_n (hK1 _ _ ?_); clear hK1 K1
  refine wp_seq_k ?_; intro K2 hK2
  refine wp_seq_k ?_; intro K3 hK3
  refine wlit ?_
  refine wl_v (x_move (tmS rfl rfl)) ?_
  refine wl_v (x_len Try.underlying22 (tmS rfl rfl)) ?_
  refine wl_v (x_lss (tmI rfl rfl) (ev_cN 20)) ?_
  refine wl_nil ?_
  refine then_n (hK3 _ _ ?_); clear hK3 K3
  refine cnd (tm rfl) (fun hc0 => ?_) (fun hc0 => ?_)
  · exfalso
    simp at hc0
    omega
  all_goals
   try simp only [nrm] at hc0
   refine wp_skip ?_
   refine then_n (hK2 _ _ ?_); clear hK2 K2
   refine wp_seq_k ?_; intro K4 hK4
   refine wlit ?_
   refine wl_v (x_move (tmS rfl rfl)) ?_
   refine wl_v (x_ixs1 Try.underlying22 ts_5 (tmS rfl rfl) (ev_cN 12) (by omega)) ?_
   refine wl_v (x_load Try.underlying5 rfl (tmP rfl rfl) (cellV hS.ok 1 rfl (getm (by omega)))) ?_
   refine wl_v (x_quoN (tmI rfl rfl) (ev_cN 16) (by omega) (fit_u8 (by omega))) ?_
   refine wl_v (x_convN Try.underlying5 Try.underlying3 (tmI rfl rfl) (fit_i64 (by omega))) ?_
   refine wl_v (x_mulN (tmI rfl rfl) (ev_cN 4) (fit_i64 (by omega))) ?_
   refine wl_v (x_assign (tmI rfl (congrArg (fun q : Nat => Value.int .i64 (q : Int)) hz))) ?_
   refine wl_nil ?_
   refine then_n (hK4 _ _ ?_); clear hK4 K4
   refine wp_seq_k ?_; intro K5 hK5
   refine wp_seq_k ?_; intro K6 hK6
   refine wlit ?_
   refine wl_v (x_move (tmI rfl rfl)) ?_
   refine wl_v (x_lss (tmI rfl rfl) (ev_cN 20)) ?_
   refine wl_v (x_move (tmB rfl rfl)) ?_
   refine gs_wl (tm (t := 18) rfl) (fun hg4_2 => ?_) (fun hg4_2 => ?_)
   · have hg4_2' := hg4_2; (try simp only [nrm] at hg4_2')
     all_goals
      refine wl_s rfl (want_n rfl rfl rfl rfl (by rw [hg4_2]; rfl)) ?_
      refine wl_s rfl (want_n rfl rfl rfl rfl (by rw [hg4_2]; rfl)) ?_
      refine wl_s rfl (want_n rfl rfl rfl rfl (by rw [hg4_2]; rfl)) ?_
      refine wl_s rfl (want_n rfl rfl rfl rfl (by rw [hg4_2]; rfl)) ?_
      refine wl_s rfl (want_n rfl rfl rfl rfl (by rw [hg4_2]; rfl)) ?_
      refine wl_v (x_pickT (tmB rfl rfl) hg4_2 ev_c) ?_
      refine wl_nil ?_
      refine then_n (hK6 _ _ ?_); clear hK6 K6
      refine cnd_t (tmB rfl rfl) rfl ?_
      refine wp_seq_k ?_; intro K7 hK7
      refine wlit ?_
      refine wl_v (x_build (bc_skip (.int .u16 0) <| bc_skip (.int .u16 0) <| bc_skip (.int .u32 0) <| bc_skip (.int .u32 0) <| bc_skip (.int .u8 0) <| bc_skip (.int .u16 0) <| bc_skip (.int .u16 0) <| bc_skip (.int .u16 0) <| bc_skip (.slice none 0 0) <| bc_skip (.slice none 0 0) <| bc_nil) (by kernel_rfl)) ?_
      refine wl_e rfl ?_; intro K hK
      refine ow_storeA hS 0 rfl ts_40 (tmP rfl rfl) (tmA rfl rfl) rfl rfl rfl ?_
      clear hS; intro w hS
      try replace hS := St.nm (M' := [.blk _ _ [_, _, _, _, _, _, _, _, _, _], .vw _ _]) hS rfl
      refine hK _ _ ?_; clear hK K
      refine wl_v (x_assign (ev_cN 21)) ?_
      refine wl_nil ?_
      refine then_n (hK7 _ _ ?_); clear hK7 K7
      refine wp_ret ?_
      refine then_r ?_
      refine ret2 rfl (.cell rfl rfl (load_rowB (cs := [_, _, _, _, _, _, _, _, _, _]) hS.ok 0 rfl Try.underlying40 rfl ts_40 rfl)) (.tmp rfl (show _ = Value.int _ _ from rfl)) ?_
      have : l.getD 12 0 = nth l 12 := rfl
      first
        | (obtain rfl : er = 20 := by omega
           exact ⟨rfl, hS.kp⟩)
        | (obtain rfl : er = 21 := by omega
           exact ⟨rfl, hS.kp⟩)
   have hg4_2' := hg4_2; (try simp only [nrm] at hg4_2')
   all_goals
    refine wl_gv (want_y rfl rfl rfl rfl (by rw [hg4_2]; rfl)) (x_move (tmS rfl rfl)) ?_
    refine wl_gv (want_y rfl rfl rfl rfl (by rw [hg4_2]; rfl)) (x_ixs1 Try.underlying22 ts_5 (tmS rfl rfl) (ev_cN 12) (by omega)) ?_
    refine wl_gv (want_y rfl rfl rfl rfl (by rw [hg4_2]; rfl)) (x_load Try.underlying5 rfl (tmP rfl rfl) (cellV hS.ok 1 rfl (getm (by omega)))) ?_
    refine wl_gv (want_y rfl rfl rfl rfl (by rw [hg4_2]; rfl)) (x_remN (tmI rfl rfl) (ev_cN 16) (by omega)) ?_
    refine wl_gv (want_y rfl rfl rfl rfl (by rw [hg4_2]; rfl)) (x_neq (tmI rfl rfl) (ev_cN 0)) ?_
    refine wl_v (x_pickF (tmB rfl rfl) hg4_2 (tmB rfl rfl)) ?_
    refine wl_nil ?_
    refine then_n (hK6 _ _ ?_); clear hK6 K6
    refine cnd (tm rfl) (fun hc1 => ?_) (fun hc1 => ?_)
    · skip
      all_goals
       try simp only [nrm] at hc1
       refine wp_seq_k ?_; intro K9 hK9
       refine wlit ?_
       refine wl_v (x_build (bc_skip (.int .u16 0) <| bc_skip (.int .u16 0) <| bc_skip (.int .u32 0) <| bc_skip (.int .u32 0) <| bc_skip (.int .u8 0) <| bc_skip (.int .u16 0) <| bc_skip (.int .u16 0) <| bc_skip (.int .u16 0) <| bc_skip (.slice none 0 0) <| bc_skip (.slice none 0 0) <| bc_nil) (by kernel_rfl)) ?_
       refine wl_e rfl ?_; intro K hK
       refine ow_storeA hS 0 rfl ts_40 (tmP rfl rfl) (tmA rfl rfl) rfl rfl rfl ?_
       clear hS; intro w hS
       try replace hS := St.nm (M' := [.blk _ _ [_, _, _, _, _, _, _, _, _, _], .vw _ _]) hS rfl
       refine hK _ _ ?_; clear hK K
       refine wl_v (x_assign (ev_cN 21)) ?_
       refine wl_nil ?_
       refine then_n (hK9 _ _ ?_); clear hK9 K9
       refine wp_ret ?_
       refine then_r ?_
       refine ret2 rfl (.cell rfl rfl (load_rowB (cs := [_, _, _, _, _, _, _, _, _, _]) hS.ok 0 rfl Try.underlying40 rfl ts_40 rfl)) (.tmp rfl (show _ = Value.int _ _ from rfl)) ?_
       have : l.getD 12 0 = nth l 12 := rfl
       first
         | (obtain rfl : er = 20 := by omega
            exact ⟨rfl, hS.kp⟩)
         | (obtain rfl : er = 21 := by omega
            exact ⟨rfl, hS.kp⟩)
    all_goals
     try simp only [nrm] at hc1
     refine wp_skip ?_
     refine then_n (hK5 _ _ ?_); clear hK5 K5
     refine wp_seq_k ?_; intro K11 hK11
     refine wp_seq_k ?_; intro K12 hK12
     refine wlit ?_
     refine wl_v (x_move (tmI rfl rfl)) ?_
     refine wl_v (x_move (tmS rfl rfl)) ?_
     refine wl_v (x_len Try.underlying22 (tmS rfl rfl)) ?_
     refine wl_v (x_gtr (tmI rfl rfl) (tmI rfl rfl)) ?_
     refine wl_nil ?_
     refine then_n (hK12 _ _ ?_); clear hK12 K12
     refine cnds (tm rfl) (fun hc2 => ?_) (fun hc2 => ?_)
     · exfalso
       simp at hc2
       have : l.getD 12 0 = nth l 12 := rfl
       omega
     all_goals
      try simp only [nrm] at hc2
      refine wp_seq_k ?_; intro K13 hK13
      refine wlit ?_
      refine wl_v (x_build (bc_skip (.int .u16 0) <| bc_skip (.int .u16 0) <| bc_skip (.int .u32 0) <| bc_skip (.int .u32 0) <| bc_skip (.int .u8 0) <| bc_skip (.int .u16 0) <| bc_skip (.int .u16 0) <| bc_skip (.int .u16 0) <| bc_skip (.slice none 0 0) <| bc_skip (.slice none 0 0) <| bc_nil) (by kernel_rfl)) ?_
      refine wl_e rfl ?_; intro K hK
      refine ow_storeA hS 0 rfl ts_40 (tmP rfl rfl) (tmA rfl rfl) rfl rfl rfl ?_
      clear hS; intro w hS
      try replace hS := St.nm (M' := [.blk _ _ [_, _, _, _, _, _, _, _, _, _], .vw _ _]) hS rfl
      refine hK _ _ ?_; clear hK K
      refine wl_v (x_assign (ev_cN 20)) ?_
      refine wl_nil ?_
      refine then_n (hK13 _ _ ?_); clear hK13 K13
      refine wp_ret ?_
      refine then_r ?_
      refine ret2 rfl (.cell rfl rfl (load_rowB (cs := [_, _, _, _, _, _, _, _, _, _]) hS.ok 0 rfl Try.underlying40 rfl ts_40 rfl)) (.tmp rfl (show _ = Value.int _ _ from rfl)) ?_
      have : l.getD 12 0 = nth l 12 := rfl
      first
        | (obtain rfl : er = 20 := by omega
           exact ⟨rfl, hS.kp⟩)
        | (obtain rfl : er = 21 := by omega
           exact ⟨rfl, hS.kp⟩)

end Go.Proofs.Ytcobjneobdihkaa
