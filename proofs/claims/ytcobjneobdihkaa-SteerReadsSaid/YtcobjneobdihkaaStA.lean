/- steer: the law's example, by contract. Conditions: none. -/
import Derived.Test.YtcobjneobdihkaaStR
import Derived.Test.YtcobjneobdihkaaIp4P
namespace Go.Proofs.Ytcobjneobdihkaa
open Go.ChangeShapes Go.WideShapes Go.ChangeAt Go.RowKit
def ex29 : List Nat := hd4B 0 28 0 (flN 0 false false) 9 17 (hd4C 0 28 0 (flN 0 false false) 9 17 0 0 []) 0 0 [] ++ [0, 7, 0, 9, 0, 8, 0, 0]
theorem ex29_len : ex29.length = 28 := by unfold ex29; rw [List.length_append, hd4B_len]; rfl
theorem ex29_bytes : Bytes ex29 := Bytes.append (hd4B_bytes _ _ _ _ _ _ _ _ _ Bytes.nil) (by intro b hb; simp at hb; omega)
theorem ex29_0 : nth ex29 0 = 69 := by rfl
theorem ex29_9 : nth ex29 9 = 17 := by rfl
theorem ex29_6 : getN ex29 6 2 = 0 := by rfl
theorem ex29_t : ex29.drop 20 = [0, 7, 0, 9, 0, 8, 0, 0] := by
  unfold ex29
  exact List.drop_left' (hd4B_len _ _ _ _ _ _ _ _ _ [])
theorem ex29_h : Hd4 ex29 20 := ⟨by rw [ex29_len]; decide, by rw [ex29_0], by rw [ex29_0], by decide, by rw [ex29_len]; decide, by rw [ex29_6]⟩
theorem ex29_read : ReadS 6 false ex29 (quV (src4 ex29) (dst4 ex29) 7 9 17 0 false) true := by
  have hH := header4_c ex29 ex29_bytes (by rw [ex29_len]; decide) 20 ex29_h
  rw [ex29_9] at hH
  have h := sread4_udp ex29 ex29_bytes (by rw [ex29_len]; decide) _ _ 20 hH (by rw [ex29_len]; decide)
  have e1 : getN ex29 20 2 = 7 := by rw [← getN_drop0, ex29_t]; rfl
  have e2 : getN ex29 (20 + 2) 2 = 9 := by rw [← getN_drop, ex29_t]; rfl
  rw [e1, e2] at h
  exact h
theorem ex29_cut : ReadS 6 false (ex29.take 27) (quV adZ adZ 0 0 0 0 false) false := by
  have hl : (ex29.take 27).length = 27 := by rw [List.length_take, ex29_len]; rfl
  refine sread4_no _ (header4_bad _ (ex29_bytes.take 27) (by rw [hl]; decide) fun ⟨sz, h1, h2, h3, h4, h5, h6⟩ => ?_)
  have e0 : nth (ex29.take 27) 0 = 69 := by rfl
  rw [e0] at h3
  rw [hl] at h5
  omega
set_option maxRecDepth 100000 in
set_option maxHeartbeats 4000000 in
theorem law29_awake_c (w0 : World) : Calls Try.prog 5 #[] w0 fun e w' => e = .returned (.bool true) ∧ Kp [] w0 w' := by
  have hS := St.sv w0
  have hpc : ∀ (w : World) (L : Option Addr), View w w.heap.size L (([0, 7, 0, 9, 0, 8, 0, 0] : List Nat).map u8v) → Calls Try.prog 11 #[.agg #[.int .u8 0, .int .i64 0, .int .u16 0, .bool false, .bool false, .int .i64 0, .int .u8 9, .int .u8 17, .int .u16 0, .bool false, .int .u64 0, .int .u64 0, .bool false, .int .u64 0, .int .u64 0, .slice none 0 0], .slice L 8 8] w fun e w' => ∃ A n c', n = 28 ∧ e = .returned (.tuple #[.slice A n c', .int .i64 0]) ∧ New w w' (.row (.slice A n c') 5 1 n (ex29.map u8v)) ∧ Kp [] w w' := fun w L h =>
    ip4_packet_c 0 0 0 false false 0 9 17 0 0 0 none 0 [] L 8 [0, 7, 0, 9, 0, 8, 0, 0] w View.nil_ Bytes.nil h (by decide) (by decide) (by decide) (by decide) (by decide)
  have hR : ∀ (w : World) (A : Option Addr) (c : Nat), View w w.heap.size A (ex29.map u8v) → 28 ≤ c → Calls Try.prog 6 #[.slice A 28 c, .bool false] w fun e w' => e = .returned (.tuple #[.agg (quV (src4 ex29) (dst4 ex29) 7 9 17 0 false).toArray, .bool true]) ∧ Kp [] w w' := fun w A c hv hc => by
    have h := ex29_read w A c hv (by rw [ex29_len]; exact hc)
    rw [ex29_len] at h
    exact h
  have hN : ∀ (w : World) (A : Option Addr) (c m : Nat), m = 27 → View w w.heap.size A ((ex29.take 27).map u8v) → 27 ≤ c → Calls Try.prog 6 #[.slice A m c, .bool false] w fun e w' => e = .returned (.tuple #[.agg (quV adZ adZ 0 0 0 0 false).toArray, .bool false]) ∧ Kp [] w w' := fun w A c m hm hv hc => by
    have hl : (ex29.take 27).length = 27 := by rw [List.length_take, ex29_len]; rfl
    have h := ex29_cut w A c hv (by rw [hl]; omega)
    rw [hl] at h
    rw [hm]
    exact h
  refine ent (n := 48) Try.func5 rfl rfl ?_
  refine wp_seq_k ?_; intro K1 hK1
  refine wlit ?_
  refine wl_v (x_assign ev_c) ?_
  refine wl_nil ?_
  refine then_n (hK1 _ _ ?_); clear hK1 K1
  refine wp_seq_k ?_; intro K2 hK2
  refine wlit ?_
  refine wl_v (x_build (bc_skip (.int .u8 0) <| bc_skip (.int .i64 0) <| bc_skip (.int .u16 0) <| bc_skip (.bool false) <| bc_skip (.bool false) <| bc_skip (.int .i64 0) <| bc_take (ev_cN 9) <| bc_take (ev_cN 17) <| bc_skip (.int .u16 0) <| bc_skipL [.bool false, .int .u64 0, .int .u64 0] <| bc_skipL [.bool false, .int .u64 0, .int .u64 0] <| bc_skip (.slice none 0 0) <| bc_nil) (by kernel_rfl)) ?_
  refine wl_e rfl ?_; intro K hK
  refine ow_build hS Try.underlying22 tz_5 (bc_take (ev_cN 0) <| bc_take (ev_cN 7) <| bc_take (ev_cN 0) <| bc_take (ev_cN 9) <| bc_take (ev_cN 0) <| bc_take (ev_cN 8) <| bc_take (ev_cN 0) <| bc_take (ev_cN 0) <| bc_nil) rfl rfl (by kernel_rfl) ?_
  clear hS; intro g1_1 w hg1_1 hS
  refine hK _ _ ?_; clear hK K
  refine wl_e rfl ?_; intro K hK
  refine ow_call Try.func11 rfl rfl (evs_cons (tmA rfl rfl) <| evs_cons (tmS rfl rfl) <| evs_nil) (hpc _ _ (viewB hS.ok 0 rfl)) ?_
  rintro e w ⟨A2, n2, c2, rfl, rfl, hn, hk⟩
  refine ⟨_, rfl, ?_⟩
  replace hS := (hS.add hk hn) -- +rowp
  clear hn hk
  have hcap : 28 ≤ c2 := row_cap (hS.rowOk 0 rfl) (by decide)
  replace hS := hS.freeze 0 rfl --ents vp,g1_1
  refine hK _ _ ?_; clear hK K
  refine wl_v (x_move (tmT rfl rfl)) ?_
  refine wl_v (x_ext (tmT rfl rfl) rfl) ?_
  refine wl_v (x_ext (tmT rfl rfl) rfl) ?_
  refine wl_v (x_assign (tmS rfl rfl)) ?_
  refine wl_v (x_assign (tmI rfl rfl)) ?_
  refine wl_nil ?_
  refine then_n (hK2 _ _ ?_); clear hK2 K2
  refine wp_seq_k ?_; intro K3 hK3
  refine wlit ?_
  refine wl_v (x_move (tmS rfl rfl)) ?_
  refine wl_e rfl ?_; intro K hK
  refine ow_call Try.func6 rfl rfl (evs_cons (tmS rfl rfl) <| evs_cons ev_c <| evs_nil) (hR _ _ _ (viewV hS.ok 0 rfl) hcap) ?_
  rintro e w ⟨rfl, hk⟩
  refine ⟨_, rfl, ?_⟩
  replace hS := hS.kept hk
  clear hk
  refine hK _ _ ?_; clear hK K
  refine wl_v (x_move (tmT rfl rfl)) ?_
  refine wl_v (x_ext (tmT rfl rfl) rfl) ?_
  refine wl_v (x_ext (tmT rfl rfl) rfl) ?_
  refine wl_e rfl ?_; intro K hK
  refine ow_alloc hS tz_32 rfl ?_
  clear hS; intro g2_5 w hg2_5 hS
  refine hK _ _ ?_; clear hK K
  refine wl_e rfl ?_; intro K hK
  refine ow_storeA hS 0 rfl ts_32 (tmP rfl rfl) (tmA rfl rfl) rfl rfl rfl ?_
  clear hS; intro w hS
  try replace hS := St.nm (M' := [.blk _ _ [_, _, _, _, _, _, _, _, _, _, _], .vw _ _, _]) hS rfl
  refine hK _ _ ?_; clear hK K
  refine wl_v (x_assign (tmB rfl rfl)) ?_
  refine wl_nil ?_
  refine then_n (hK3 _ _ ?_); clear hK3 K3
  refine wp_seq_k ?_; intro K4 hK4
  refine wlit ?_
  refine wl_v (x_move (tmS rfl rfl)) ?_
  refine wl_v (x_move (tmS rfl rfl)) ?_
  refine wl_v (x_len Try.underlying22 (tmS rfl rfl)) ?_
  refine wl_v (x_min (tmI rfl rfl) (ev_cN 27)) ?_
  refine wl_v (x_sliceH Try.underlying22 ts_5 (tmS rfl rfl) (tmI rfl rfl) (by omega)) ?_
  replace hS := hS.cutb 1 0 27 rfl (by rw [ex29_len]; exact hcap : ex29.length ≤ c2)
  refine wl_e rfl ?_; intro K hK
  refine ow_call Try.func6 rfl rfl (evs_cons (tmS rfl rfl) <| evs_cons ev_c <| evs_nil) (hN _ _ _ _ (by rfl) (viewV hS.ok 0 rfl) (by omega)) ?_
  rintro e w ⟨rfl, hk⟩
  refine ⟨_, rfl, ?_⟩
  replace hS := hS.kept hk
  clear hk
  refine hK _ _ ?_; clear hK K
  refine wl_v (x_move (tmT rfl rfl)) ?_
  refine wl_v (x_ext (tmT rfl rfl) rfl) ?_
  refine wl_v (x_ext (tmT rfl rfl) rfl) ?_
  refine wl_e rfl ?_; intro K hK
  refine ow_alloc hS tz_32 rfl ?_
  clear hS; intro g3_9 w hg3_9 hS
  refine hK _ _ ?_; clear hK K
  refine wl_e rfl ?_; intro K hK
  refine ow_storeA hS 0 rfl ts_32 (tmP rfl rfl) (tmA rfl rfl) rfl rfl rfl ?_
  clear hS; intro w hS
  try replace hS := St.nm (M' := [.blk _ _ [_, _, _, _, _, _, _, _, _, _, _], .vw _ _, .blk _ _ [_, _, _, _, _, _, _, _, _, _, _], .vw _ _, _]) hS rfl
  refine hK _ _ ?_; clear hK K
  refine wl_v (x_assign (tmB rfl rfl)) ?_
  refine wl_nil ?_
  refine then_n (hK4 _ _ ?_); clear hK4 K4
  refine wp_seq_k ?_; intro K5 hK5
  refine wlit ?_
  refine wl_v (x_move (tmI rfl rfl)) ?_
  refine wl_v (x_eql (tmI rfl rfl) (ev_cN 0)) ?_
  refine wl_v (x_move (tmB rfl rfl)) ?_
  refine gs_wl (tm (t := 29) rfl) (fun hg4_2 => ?_) (fun hg4_2 => ?_)
  · have hg4_2' := hg4_2; (try simp only [nrm] at hg4_2')
    all_goals
     refine wl_gv (want_y rfl rfl rfl rfl (by rw [hg4_2]; rfl)) (x_move (tmB rfl rfl)) ?_
     refine wl_v (x_pickT (tmB rfl rfl) hg4_2 (tmB rfl rfl)) ?_
     refine wl_v (x_move (tmB rfl rfl)) ?_
     refine gs_wl (tm (t := 32) rfl) (fun hg4_5 => ?_) (fun hg4_5 => ?_)
     · have hg4_5' := hg4_5; (try simp only [nrm] at hg4_5')
       all_goals
        refine wl_gv (want_y rfl rfl rfl rfl (by rw [hg4_5]; rfl)) (x_fa 0 Try.underlying32 rfl rfl ts_29 (tmP rfl rfl)) ?_
        refine wl_gv (want_y rfl rfl rfl rfl (by rw [hg4_5]; rfl)) (x_fa 6 Try.underlying29 rfl rfl ts_27 (tmP rfl rfl)) ?_
        refine wl_gv (want_y rfl rfl rfl rfl (by rw [hg4_5]; rfl)) (x_load Try.underlying27 rfl (tmP rfl rfl) (cellB hS.ok 2 rfl rfl)) ?_
        refine wl_gv (want_y rfl rfl rfl rfl (by rw [hg4_5]; rfl)) (x_eql (tmI rfl rfl) (ev_cN 7)) ?_
        refine wl_v (x_pickT (tmB rfl rfl) hg4_5 (tmB rfl rfl)) ?_
        refine wl_v (x_move (tmB rfl rfl)) ?_
        refine gs_wl (tm (t := 38) rfl) (fun hg4_11 => ?_) (fun hg4_11 => ?_)
        · have hg4_11' := hg4_11; (try simp only [nrm] at hg4_11')
          all_goals
           refine wl_gv (want_y rfl rfl rfl rfl (by rw [hg4_11]; rfl)) (x_fa 0 Try.underlying32 rfl rfl ts_29 (tmP rfl rfl)) ?_
           refine wl_gv (want_y rfl rfl rfl rfl (by rw [hg4_11]; rfl)) (x_fa 7 Try.underlying29 rfl rfl ts_27 (tmP rfl rfl)) ?_
           refine wl_gv (want_y rfl rfl rfl rfl (by rw [hg4_11]; rfl)) (x_load Try.underlying27 rfl (tmP rfl rfl) (cellB hS.ok 2 rfl rfl)) ?_
           refine wl_gv (want_y rfl rfl rfl rfl (by rw [hg4_11]; rfl)) (x_eql (tmI rfl rfl) (ev_cN 9)) ?_
           refine wl_v (x_pickT (tmB rfl rfl) hg4_11 (tmB rfl rfl)) ?_
           refine wl_v (x_move (tmB rfl rfl)) ?_
           refine gs_wl (tm (t := 44) rfl) (fun hg4_17 => ?_) (fun hg4_17 => ?_)
           · have hg4_17' := hg4_17; (try simp only [nrm] at hg4_17')
             all_goals
              refine wl_gv (want_y rfl rfl rfl rfl (by rw [hg4_17]; rfl)) (x_move (tmB rfl rfl)) ?_
              refine wl_gv (want_y rfl rfl rfl rfl (by rw [hg4_17]; rfl)) (x_not (tmB rfl rfl)) ?_
              refine wl_v (x_pickT (tmB rfl rfl) hg4_17 (tmB rfl rfl)) ?_
              refine wl_v (x_assign (tmB rfl rfl)) ?_
              refine wl_nil ?_
              refine then_n (hK5 _ _ ?_); clear hK5 K5
              refine wp_ret ?_
              refine ret1 rfl (.tmp rfl (show _ = Value.bool _ from rfl)) ?_
              exact ⟨by simp, hS.kp⟩
           have hg4_17' := hg4_17; (try simp only [nrm] at hg4_17'); try (exfalso; first | with_reducible exact absurd hg4_17 Bool.false_ne_true | with_reducible exact absurd hg4_17.symm Bool.false_ne_true | omega | (simp at hg4_17; done))
           all_goals
            refine wl_s rfl (want_n rfl rfl rfl rfl (by rw [hg4_17]; rfl)) ?_
            refine wl_s rfl (want_n rfl rfl rfl rfl (by rw [hg4_17]; rfl)) ?_
            refine wl_v (x_pickF (tmB rfl rfl) hg4_17 ev_c) ?_
            refine wl_v (x_assign (tmB rfl rfl)) ?_
            refine wl_nil ?_
            refine then_n (hK5 _ _ ?_); clear hK5 K5
            refine wp_ret ?_
            refine ret1 rfl (.tmp rfl (show _ = Value.bool _ from rfl)) ?_
            exact ⟨by simp, hS.kp⟩
        have hg4_11' := hg4_11; (try simp only [nrm] at hg4_11'); try (exfalso; first | with_reducible exact absurd hg4_11 Bool.false_ne_true | with_reducible exact absurd hg4_11.symm Bool.false_ne_true | omega | (simp at hg4_11; done))
        all_goals
         refine wl_s rfl (want_n rfl rfl rfl rfl (by rw [hg4_11]; rfl)) ?_
         refine wl_s rfl (want_n rfl rfl rfl rfl (by rw [hg4_11]; rfl)) ?_
         refine wl_s rfl (want_n rfl rfl rfl rfl (by rw [hg4_11]; rfl)) ?_
         refine wl_s rfl (want_n rfl rfl rfl rfl (by rw [hg4_11]; rfl)) ?_
         refine wl_v (x_pickF (tmB rfl rfl) hg4_11 ev_c) ?_
         refine wl_v (x_move (tmB rfl rfl)) ?_
         refine wl_s rfl (want_n rfl rfl rfl rfl rfl) ?_
         refine wl_s rfl (want_n rfl rfl rfl rfl rfl) ?_
         refine wl_v (x_pickF (tmB rfl rfl) rfl ev_c) ?_
         refine wl_v (x_assign (tmB rfl rfl)) ?_
         refine wl_nil ?_
         refine then_n (hK5 _ _ ?_); clear hK5 K5
         refine wp_ret ?_
         refine ret1 rfl (.tmp rfl (show _ = Value.bool _ from rfl)) ?_
         exact ⟨by simp, hS.kp⟩
     have hg4_5' := hg4_5; (try simp only [nrm] at hg4_5'); try (exfalso; first | with_reducible exact absurd hg4_5 Bool.false_ne_true | with_reducible exact absurd hg4_5.symm Bool.false_ne_true | omega | (simp at hg4_5; done))
     all_goals
      refine wl_s rfl (want_n rfl rfl rfl rfl (by rw [hg4_5]; rfl)) ?_
      refine wl_s rfl (want_n rfl rfl rfl rfl (by rw [hg4_5]; rfl)) ?_
      refine wl_s rfl (want_n rfl rfl rfl rfl (by rw [hg4_5]; rfl)) ?_
      refine wl_s rfl (want_n rfl rfl rfl rfl (by rw [hg4_5]; rfl)) ?_
      refine wl_v (x_pickF (tmB rfl rfl) hg4_5 ev_c) ?_
      refine wl_v (x_move (tmB rfl rfl)) ?_
      refine wl_s rfl (want_n rfl rfl rfl rfl rfl) ?_
      refine wl_s rfl (want_n rfl rfl rfl rfl rfl) ?_
      refine wl_s rfl (want_n rfl rfl rfl rfl rfl) ?_
      refine wl_s rfl (want_n rfl rfl rfl rfl rfl) ?_
      refine wl_v (x_pickF (tmB rfl rfl) rfl ev_c) ?_
      refine wl_v (x_move (tmB rfl rfl)) ?_
      refine wl_s rfl (want_n rfl rfl rfl rfl rfl) ?_
      refine wl_s rfl (want_n rfl rfl rfl rfl rfl) ?_
      refine wl_v (x_pickF (tmB rfl rfl) rfl ev_c) ?_
      refine wl_v (x_assign (tmB rfl rfl)) ?_
      refine wl_nil ?_
      refine then_n (hK5 _ _ ?_); clear hK5 K5
      refine wp_ret ?_
      refine ret1 rfl (.tmp rfl (show _ = Value.bool _ from rfl)) ?_
      exact ⟨by simp, hS.kp⟩
  have hg4_2' := hg4_2; (try simp only [nrm] at hg4_2'); try (exfalso; first | with_reducible exact absurd hg4_2 Bool.false_ne_true | with_reducible exact absurd hg4_2.symm Bool.false_ne_true | omega | (simp at hg4_2; done))
  all_goals
   refine wl_s rfl (want_n rfl rfl rfl rfl (by rw [hg4_2]; rfl)) ?_
   refine wl_v (x_pickF (tmB rfl rfl) hg4_2 ev_c) ?_
   refine wl_v (x_move (tmB rfl rfl)) ?_
   refine wl_s rfl (want_n rfl rfl rfl rfl rfl) ?_
   refine wl_s rfl (want_n rfl rfl rfl rfl rfl) ?_
   refine wl_s rfl (want_n rfl rfl rfl rfl rfl) ?_
   refine wl_s rfl (want_n rfl rfl rfl rfl rfl) ?_
   refine wl_v (x_pickF (tmB rfl rfl) rfl ev_c) ?_
   refine wl_v (x_move (tmB rfl rfl)) ?_
   refine wl_s rfl (want_n rfl rfl rfl rfl rfl) ?_
   refine wl_s rfl (want_n rfl rfl rfl rfl rfl) ?_
   refine wl_s rfl (want_n rfl rfl rfl rfl rfl) ?_
   refine wl_s rfl (want_n rfl rfl rfl rfl rfl) ?_
   refine wl_v (x_pickF (tmB rfl rfl) rfl ev_c) ?_
   refine wl_v (x_move (tmB rfl rfl)) ?_
   refine wl_s rfl (want_n rfl rfl rfl rfl rfl) ?_
   refine wl_s rfl (want_n rfl rfl rfl rfl rfl) ?_
   refine wl_v (x_pickF (tmB rfl rfl) rfl ev_c) ?_
   refine wl_v (x_assign (tmB rfl rfl)) ?_
   refine wl_nil ?_
   refine then_n (hK5 _ _ ?_); clear hK5 K5
   refine wp_ret ?_
   refine ret1 rfl (.tmp rfl (show _ = Value.bool _ from rfl)) ?_
   exact ⟨by simp, hS.kp⟩
end Go.Proofs.Ytcobjneobdihkaa
