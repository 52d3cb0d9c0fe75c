
/- Proved: Ip4Long returns true for every input, and changes no memory that was there. Conditions: none. -/
import Derived.Test.YtfagblcepibliaaIp4A
import Derived.Test.YtfagblcepibliaaArgs
namespace Go.Proofs.Ytfagblcepibliaa
open Go.RowKit
namespace Ip4Long
set_option maxRecDepth 100000 in
set_option maxHeartbeats 4000000 in
theorem walk (more opts : Int) (w0 : World) (hm : 0 ≤ more ∧ more < 256) (ho : 0 ≤ opts ∧ opts < 256) :
    Calls Try.prog 5 #[.int .u8 more, .int .u8 opts] w0 fun e w' => e = .returned (.bool true) ∧ Below w0.heap.size w0 w' := by
  obtain ⟨more, rfl⟩ := Int.eq_ofNat_of_zero_le hm.1
  obtain ⟨opts, rfl⟩ := Int.eq_ofNat_of_zero_le ho.1
  have hS := St.sv w0
  obtain ⟨m, hm0⟩ : ∃ m, opts % 11 * 4 = m := ⟨_, rfl⟩
  have hm1 : m ≤ 40 := by omega
  have hm2 : m % 4 = 0 := by omega
  obtain ⟨kk, hkk⟩ : ∃ kk, 65535 - (20 + m) = kk := ⟨_, rfl⟩
  have hK1 : 20 + m + kk = 65535 := by omega
  have hrep : ∀ k, (List.replicate k (0 : Nat)).length = k := fun k => List.length_replicate
  have hmap : ∀ k, (List.replicate k (Value.int .u8 0)) = (List.replicate k (0 : Nat)).map u8v := fun k => by simp [u8v]
  have hr : hdRight ((20 + m + kk : Nat) : Int) ((0 : Nat) : Int) ⟨false, 0, 0⟩ ⟨false, 0, 0⟩ m := by
    refine ⟨by omega, hm2, by omega, by omega, by omega, by omega, by decide, by decide⟩
  have hp1 := fun O c L cl w (h1 : View w w.heap.size O ((List.replicate m (0 : Nat)).map u8v)) (h2 : View w w.heap.size L ((List.replicate kk (0 : Nat)).map u8v)) =>
    ip4_packet_c 0 0 0 false false 0 9 17 0 0 0 O c (List.replicate m 0) L cl (List.replicate kk 0) w h1 (Bytes.replicate m) h2 (by omega) (by omega) (by omega) (by omega) (by rw [hrep, hrep]; exact hr)
  simp only [hrep] at hp1
  have hp2 := fun O c L cl w => ip4_packet_bad 0 0 0 false false 0 9 17 0 ⟨false, 0, 0⟩ ⟨false, 0, 0⟩ O m c L (kk + 1 + more) cl w (by omega) (by omega) 30 (.inl ⟨by omega, rfl⟩)
  refine ent (n := 57) Try.func5 rfl rfl ?_
  refine wp_seq_k ?_; intro K1 hK1
  refine wlit ?_
  refine wl_v (x_assign ev_c) ?_
  refine wl_nil ?_
  refine then_n (hK1 _ _ ?_); clear hK1 K1
  refine wp_seq_k ?_; intro K2 hK2
  refine wlit ?_
  refine wl_v (x_move (tmI rfl rfl)) ?_
  first
   | refine wl_v (x_remN (tmI rfl rfl) (ev_cN 11) (by omega)) ?_
   | refine wl_v (x_rem (tmI rfl rfl) (ev_cN 11) (by omega)) ?_
  first
   | refine wl_v (x_convN Try.underlying5 Try.underlying3 (tmI rfl rfl) (fit_i64 (by omega))) ?_
   | refine wl_v (x_conv Try.underlying5 Try.underlying3 (tmI rfl rfl)) ?_
  first
   | refine wl_v (x_mulN (tmI rfl rfl) (ev_cN 4) (fit_i64 (by omega))) ?_
   | refine wl_v (x_mulI (tmI rfl rfl) (ev_cN 4) (IntWalk.i64_in _ (by omega))) ?_
   | refine wl_v (x_mul (tmI rfl rfl) (ev_cN 4)) ?_
  refine wl_e rfl ?_; intro K hK
  refine ow_make (m := m) hS Try.underlying22 tz_5 rfl (tmI rfl (congrArg (fun q : Nat => Value.int .i64 (q : Int)) hm0)) (tmI rfl (congrArg (fun q : Nat => Value.int .i64 (q : Int)) hm0)) rfl (by omega) (by simp only [maxLen]; omega) ?_
  clear hS; intro g1_4 w hg1_4 hS 
  rw [hmap] at hS
  refine hK _ _ ?_; clear hK K
  refine wl_v (x_build (bc_skip (.int .u8 0) <| bc_skip (.int .i64 0) <| bc_skip (.int .u16 0) <| bc_skip (.bool false) <| bc_skip (.bool false) <| bc_skip (.int .i64 0) <| bc_take (ev_cN 9) <| bc_take (ev_cN 17) <| bc_skip (.int .u16 0) <| bc_skipL [.bool false, .int .u64 0, .int .u64 0] <| bc_skipL [.bool false, .int .u64 0, .int .u64 0] <| bc_take (tmS rfl rfl) <| bc_nil) (by kernel_rfl)) ?_
  refine wl_e rfl ?_; intro K hK
  refine ow_alloc hS tz_29 rfl ?_
  clear hS; intro g1_6 w hg1_6 hS
  refine hK _ _ ?_; clear hK K
  refine wl_e rfl ?_; intro K hK
  refine ow_storeA hS 0 rfl ts_29 (tmP rfl rfl) (tmA rfl rfl) rfl rfl rfl ?_
  clear hS; intro w hS
  try replace hS := St.nm (M' := [.blk _ _ [_, _, _, _, _, _, _, _, _, _, _, _, _, _, _, _], _]) hS rfl
  refine hK _ _ ?_; clear hK K
  refine wl_nil ?_
  refine then_n (hK2 _ _ ?_); clear hK2 K2
  refine wp_seq_k ?_; intro K3 hK3
  refine wlit ?_
  refine wl_v (x_loadA (cs := [_, _, _, _, _, _, _, _, _, _, _, _, _, _, _, _]) Try.underlying29 rfl ts_29 (tmP rfl rfl) (rangeB hS.ok 0 rfl rfl)) ?_
  refine wl_e rfl ?_; intro K hK
  refine ow_call Try.func27 rfl rfl (evs_cons (tmA rfl rfl) <| evs_nil) (ip4_size_c 0 0 0 false false 0 9 17 0 ⟨false, 0, 0⟩ ⟨false, 0, 0⟩ _ m m _ (by omega)) ?_
  rintro e w ⟨rfl, hk⟩
  refine ⟨_, rfl, ?_⟩
  replace hS := hS.kept hk
  clear hk
  refine hK _ _ ?_; clear hK K
  first
   | refine wl_v (x_subN (ev_cN 65535) (tmI rfl rfl) (fit_i64 (by omega)) (by omega)) ?_
   | refine wl_v (x_subI (ev_cN 65535) (tmI rfl rfl) (IntWalk.i64_in _ (by omega))) ?_
   | refine wl_v (x_sub (ev_cN 65535) (tmI rfl rfl)) ?_
  refine wl_v (x_assign (tmI rfl (congrArg (fun q : Nat => Value.int .i64 (q : Int)) hkk))) ?_
  refine wl_nil ?_
  refine then_n (hK3 _ _ ?_); clear hK3 K3
  refine wp_seq_k ?_; intro K4 hK4
  refine rg_startk 0 hS mixed_ ?_
  clear hS; intro w hS
  refine rg_take 0 rfl rfl (by kernel_rfl) (by kernel_rfl) (by kernel_rfl) (want_0) (fun w hok => x_loadA (cs := [_, _, _, _, _, _, _, _, _, _, _, _, _, _, _, _]) Try.underlying29 rfl ts_29 (tmP rfl rfl) (rangeB hok 0 rfl rfl)) ?_
  refine rg_take 1 rfl rfl (by kernel_rfl) (by kernel_rfl) (by kernel_rfl) (want_0) (fun w hok => x_move (tmI rfl rfl)) ?_
  refine rg_step 2 rfl (by kernel_rfl) (want_0) (oks_drop hS 0 rfl) ?_; intro K hK
  refine ow_make (m := kk) hS Try.underlying22 tz_5 rfl (tmI rfl rfl) (tmI rfl rfl) rfl (by omega) (by simp only [maxLen]; omega) ?_
  clear hS; intro g3_2 w hg3_2 hS -- +rowk
  rw [hmap] at hS
  refine hK _ _ ?_; clear hK K
  refine rg_step 3 rfl (by kernel_rfl) (want_0) (oks_drop hS 1 rfl) ?_; intro K hK
  refine ow_call Try.func31 rfl rfl (evs_cons (tmA rfl rfl) <| evs_cons (tmS rfl rfl) <| evs_nil) (hp1 _ _ _ _ _ (by first | exact viewR hS.ok 2 rfl | exact viewR hS.ok 1 rfl) (viewR hS.ok 0 rfl)) ?_
  rintro e w ⟨A1, n1, c1, hn1, rfl, hn, hk⟩
  refine ⟨_, rfl, ?_⟩
  replace hS := hS.add hk hn -- +rowp
  clear hn hk
  refine hK _ _ ?_; clear hK K
  refine rg_take 4 rfl rfl (by kernel_rfl) (by kernel_rfl) (by kernel_rfl) (want_0) (fun w hok => x_move (tmT rfl rfl)) ?_
  refine rg_take 5 rfl rfl (by kernel_rfl) (by kernel_rfl) (by kernel_rfl) (want_0) (fun w hok => x_ext (tmT rfl rfl) rfl) ?_
  refine rg_take 6 rfl rfl (by kernel_rfl) (by kernel_rfl) (by kernel_rfl) (want_0) (fun w hok => x_ext (tmT rfl rfl) rfl) ?_
  refine rg_take 7 rfl rfl (by kernel_rfl) (by kernel_rfl) (by kernel_rfl) (want_0) (fun w hok => x_assign (tmS rfl rfl)) ?_
  refine rg_take 8 rfl rfl (by kernel_rfl) (by kernel_rfl) (by kernel_rfl) (want_0) (fun w hok => x_assign (tmI rfl rfl)) ?_
  refine rg_done (oks_drop hS 2 rfl) (by kernel_rfl) ?_
  refine then_n (hK4 _ _ ?_); clear hK4 K4
  refine wp_seq_k ?_; intro K5 hK5
  refine rg_startk 0 hS mixed_ ?_
  clear hS; intro w hS
  refine rg_take 0 rfl rfl (by kernel_rfl) (by kernel_rfl) (by kernel_rfl) (want_0) (fun w hok => x_loadA (cs := [_, _, _, _, _, _, _, _, _, _, _, _, _, _, _, _]) Try.underlying29 rfl ts_29 (tmP rfl rfl) (rangeB hok 2 rfl rfl)) ?_
  refine rg_take 1 rfl rfl (by kernel_rfl) (by kernel_rfl) (by kernel_rfl) (want_0) (fun w hok => x_move (tmI rfl rfl)) ?_
  first
   | refine rg_take 2 rfl rfl (by kernel_rfl) (by kernel_rfl) (by kernel_rfl) (want_0) (fun w hok => x_addN (tmI rfl rfl) (ev_cN 1) (fit_i64 (by omega))) ?_
   | refine rg_take 2 rfl rfl (by kernel_rfl) (by kernel_rfl) (by kernel_rfl) (want_0) (fun w hok => x_addI (tmI rfl rfl) (ev_cN 1) (IntWalk.i64_in _ (by omega))) ?_
   | refine rg_take 2 rfl rfl (by kernel_rfl) (by kernel_rfl) (by kernel_rfl) (want_0) (fun w hok => x_add (tmI rfl rfl) (ev_cN 1)) ?_
  refine rg_take 3 rfl rfl (by kernel_rfl) (by kernel_rfl) (by kernel_rfl) (want_0) (fun w hok => x_move (tmI rfl rfl)) ?_
  first
   | refine rg_take 4 rfl rfl (by kernel_rfl) (by kernel_rfl) (by kernel_rfl) (want_0) (fun w hok => x_convN Try.underlying5 Try.underlying3 (tmI rfl rfl) (fit_i64 (by omega))) ?_
   | refine rg_take 4 rfl rfl (by kernel_rfl) (by kernel_rfl) (by kernel_rfl) (want_0) (fun w hok => x_conv Try.underlying5 Try.underlying3 (tmI rfl rfl)) ?_
  first
   | refine rg_take 5 rfl rfl (by kernel_rfl) (by kernel_rfl) (by kernel_rfl) (want_0) (fun w hok => x_addN (tmI rfl rfl) (tmI rfl rfl) (fit_i64 (by omega))) ?_
   | refine rg_take 5 rfl rfl (by kernel_rfl) (by kernel_rfl) (by kernel_rfl) (want_0) (fun w hok => x_addI (tmI rfl rfl) (tmI rfl rfl) (IntWalk.i64_in _ (by omega))) ?_
   | refine rg_take 5 rfl rfl (by kernel_rfl) (by kernel_rfl) (by kernel_rfl) (want_0) (fun w hok => x_add (tmI rfl rfl) (tmI rfl rfl)) ?_
  refine rg_step 6 rfl (by kernel_rfl) (want_0) (oks_drop hS 0 rfl) ?_; intro K hK
  refine ow_make hS Try.underlying22 tz_5 rfl (tmI rfl rfl) (tmI rfl rfl) rfl (by omega) (by simp only [maxLen]; omega) ?_
  clear hS; intro g4_6 w hg4_6 hS
  refine hK _ _ ?_; clear hK K
  refine rg_step 7 rfl (by kernel_rfl) (want_0) (oks_drop hS 1 rfl) ?_; intro K hK
  refine ow_call Try.func31 rfl rfl (evs_cons (tmA rfl rfl) <| evs_cons (tmS rfl rfl) <| evs_nil) (hp2 _ _ _ _ _) ?_
  rintro e w ⟨rfl, hk⟩
  refine ⟨_, rfl, ?_⟩
  replace hS := hS.kept hk
  clear hk
  refine hK _ _ ?_; clear hK K
  refine rg_take 8 rfl rfl (by kernel_rfl) (by kernel_rfl) (by kernel_rfl) (want_0) (fun w hok => x_move (tmT rfl rfl)) ?_
  refine rg_take 9 rfl rfl (by kernel_rfl) (by kernel_rfl) (by kernel_rfl) (want_0) (fun w hok => x_ext (tmT rfl rfl) rfl) ?_
  refine rg_take 10 rfl rfl (by kernel_rfl) (by kernel_rfl) (by kernel_rfl) (want_0) (fun w hok => x_ext (tmT rfl rfl) rfl) ?_
  refine rg_take 11 rfl rfl (by kernel_rfl) (by kernel_rfl) (by kernel_rfl) (want_0) (fun w hok => x_assign (tmS rfl rfl)) ?_
  refine rg_take 12 rfl rfl (by kernel_rfl) (by kernel_rfl) (by kernel_rfl) (want_0) (fun w hok => x_assign (tmI rfl rfl)) ?_
  refine rg_done (oks_drop hS 1 rfl) (by kernel_rfl) ?_
  refine then_n (hK5 _ _ ?_); clear hK5 K5
  refine wp_seq_k ?_; intro K6 hK6
  refine wlit ?_
  refine wl_v (x_move (tmS rfl rfl)) ?_
  refine wl_v (x_len Try.underlying22 (tmS rfl rfl)) ?_
  refine wl_v (x_eql (tmI rfl rfl) (ev_cN 65535)) ?_
  refine wl_v (x_move (tmB rfl rfl)) ?_
  refine gs_wl (tm (t := 41) rfl) (fun hg5_3 => ?_) (fun hg5_3 => ?_)
  · have hg5_3' := hg5_3; (try simp only [nrm] at hg5_3'); try (exfalso; first | with_reducible exact absurd hg5_3 Bool.false_ne_true | with_reducible exact absurd hg5_3.symm Bool.false_ne_true | omega | (simp at hg5_3; done))
    all_goals
     refine wl_gv (want_y rfl rfl rfl rfl (by rw [hg5_3]; rfl)) (x_move (tmI rfl rfl)) ?_
     refine wl_gv (want_y rfl rfl rfl rfl (by rw [hg5_3]; rfl)) (x_eql (tmI rfl rfl) (ev_cN 0)) ?_
     refine wl_v (x_pickT (tmB rfl rfl) hg5_3 (tmB rfl rfl)) ?_
     refine wl_v (x_move (tmB rfl rfl)) ?_
     refine gs_wl (tm (t := 45) rfl) (fun hg5_7 => ?_) (fun hg5_7 => ?_)
     · have hg5_7' := hg5_7; (try simp only [nrm] at hg5_7'); try (exfalso; first | with_reducible exact absurd hg5_7 Bool.false_ne_true | with_reducible exact absurd hg5_7.symm Bool.false_ne_true | omega | (simp at hg5_7; done))
       all_goals
        refine wl_gv (want_y rfl rfl rfl rfl (by rw [hg5_7]; rfl)) (x_move (tmS rfl rfl)) ?_
        refine wl_gv (want_y rfl rfl rfl rfl (by rw [hg5_7]; rfl)) (x_len Try.underlying22 (tmS rfl rfl)) ?_
        refine wl_gv (want_y rfl rfl rfl rfl (by rw [hg5_7]; rfl)) (x_eql (tmI rfl rfl) (ev_cN 0)) ?_
        refine wl_v (x_pickT (tmB rfl rfl) hg5_7 (tmB rfl rfl)) ?_
        refine wl_v (x_move (tmB rfl rfl)) ?_
        refine gs_wl (tm (t := 50) rfl) (fun hg5_12 => ?_) (fun hg5_12 => ?_)
        · have hg5_12' := hg5_12; (try simp only [nrm] at hg5_12'); try (exfalso; first | with_reducible exact absurd hg5_12 Bool.false_ne_true | with_reducible exact absurd hg5_12.symm Bool.false_ne_true | omega | (simp at hg5_12; done))
          all_goals
           refine wl_gv (want_y rfl rfl rfl rfl (by rw [hg5_12]; rfl)) (x_move (tmI rfl rfl)) ?_
           refine wl_gv (want_y rfl rfl rfl rfl (by rw [hg5_12]; rfl)) (x_eql (tmI rfl rfl) (ev_cN 30)) ?_
           refine wl_v (x_pickT (tmB rfl rfl) hg5_12 (tmB rfl rfl)) ?_
           refine wl_v (x_move (tmB rfl rfl)) ?_
           refine gs_wl (tm (t := 54) rfl) (fun hg5_16 => ?_) (fun hg5_16 => ?_)
           · have hg5_16' := hg5_16; (try simp only [nrm] at hg5_16'); try (exfalso; first | with_reducible exact absurd hg5_16 Bool.false_ne_true | with_reducible exact absurd hg5_16.symm Bool.false_ne_true | omega | (simp at hg5_16; done))
             all_goals
              refine wl_g (want_y rfl rfl rfl rfl (by rw [hg5_16]; rfl)) ?_; intro K hK
              refine ow_call Try.func19 rfl rfl (evs_nil) (law04_awake_c _) ?_
              rintro e w ⟨rfl, hk⟩
              refine ⟨_, rfl, ?_⟩
              replace hS := hS.kept hk
              clear hk
              refine hK _ _ ?_; clear hK K
              refine wl_v (x_pickT (tmB rfl rfl) hg5_16 (tmB rfl rfl)) ?_
              refine wl_v (x_assign (tmB rfl rfl)) ?_
              refine wl_nil ?_
              refine then_n (hK6 _ _ ?_); clear hK6 K6
              refine wp_ret ?_
              refine ret1 rfl (.tmp rfl (show _ = Value.bool _ from rfl)) ?_
              exact ⟨rfl, hS.kp.below⟩
           have hg5_16' := hg5_16; (try simp only [nrm] at hg5_16'); try (exfalso; first | with_reducible exact absurd hg5_16 Bool.false_ne_true | with_reducible exact absurd hg5_16.symm Bool.false_ne_true | omega | (simp at hg5_16; done))
           all_goals
            refine wl_s rfl (want_n rfl rfl rfl rfl (by rw [hg5_16]; rfl)) ?_
            refine wl_v (x_pickF (tmB rfl rfl) hg5_16 ev_c) ?_
            refine wl_v (x_assign (tmB rfl rfl)) ?_
            refine wl_nil ?_
            refine then_n (hK6 _ _ ?_); clear hK6 K6
            refine wp_ret ?_
            refine ret1 rfl (.tmp rfl (show _ = Value.bool _ from rfl)) ?_
            exact ⟨rfl, hS.kp.below⟩
        have hg5_12' := hg5_12; (try simp only [nrm] at hg5_12'); try (exfalso; first | with_reducible exact absurd hg5_12 Bool.false_ne_true | with_reducible exact absurd hg5_12.symm Bool.false_ne_true | omega | (simp at hg5_12; done))
        all_goals
         refine wl_s rfl (want_n rfl rfl rfl rfl (by rw [hg5_12]; rfl)) ?_
         refine wl_s rfl (want_n rfl rfl rfl rfl (by rw [hg5_12]; rfl)) ?_
         refine wl_v (x_pickF (tmB rfl rfl) hg5_12 ev_c) ?_
         refine wl_v (x_move (tmB rfl rfl)) ?_
         refine wl_s rfl (want_n rfl rfl rfl rfl rfl) ?_
         refine wl_v (x_pickF (tmB rfl rfl) rfl ev_c) ?_
         refine wl_v (x_assign (tmB rfl rfl)) ?_
         refine wl_nil ?_
         refine then_n (hK6 _ _ ?_); clear hK6 K6
         refine wp_ret ?_
         refine ret1 rfl (.tmp rfl (show _ = Value.bool _ from rfl)) ?_
         exact ⟨rfl, hS.kp.below⟩
     have hg5_7' := hg5_7; (try simp only [nrm] at hg5_7'); try (exfalso; first | with_reducible exact absurd hg5_7 Bool.false_ne_true | with_reducible exact absurd hg5_7.symm Bool.false_ne_true | omega | (simp at hg5_7; done))
     all_goals
      refine wl_s rfl (want_n rfl rfl rfl rfl (by rw [hg5_7]; rfl)) ?_
      refine wl_s rfl (want_n rfl rfl rfl rfl (by rw [hg5_7]; rfl)) ?_
      refine wl_s rfl (want_n rfl rfl rfl rfl (by rw [hg5_7]; rfl)) ?_
      refine wl_v (x_pickF (tmB rfl rfl) hg5_7 ev_c) ?_
      refine wl_v (x_move (tmB rfl rfl)) ?_
      refine wl_s rfl (want_n rfl rfl rfl rfl rfl) ?_
      refine wl_s rfl (want_n rfl rfl rfl rfl rfl) ?_
      refine wl_v (x_pickF (tmB rfl rfl) rfl ev_c) ?_
      refine wl_v (x_move (tmB rfl rfl)) ?_
      refine wl_s rfl (want_n rfl rfl rfl rfl rfl) ?_
      refine wl_v (x_pickF (tmB rfl rfl) rfl ev_c) ?_
      refine wl_v (x_assign (tmB rfl rfl)) ?_
      refine wl_nil ?_
      refine then_n (hK6 _ _ ?_); clear hK6 K6
      refine wp_ret ?_
      refine ret1 rfl (.tmp rfl (show _ = Value.bool _ from rfl)) ?_
      exact ⟨rfl, hS.kp.below⟩
  have hg5_3' := hg5_3; (try simp only [nrm] at hg5_3'); try (exfalso; first | with_reducible exact absurd hg5_3 Bool.false_ne_true | with_reducible exact absurd hg5_3.symm Bool.false_ne_true | omega | (simp at hg5_3; done))
  all_goals
   refine wl_s rfl (want_n rfl rfl rfl rfl (by rw [hg5_3]; rfl)) ?_
   refine wl_s rfl (want_n rfl rfl rfl rfl (by rw [hg5_3]; rfl)) ?_
   refine wl_v (x_pickF (tmB rfl rfl) hg5_3 ev_c) ?_
   refine wl_v (x_move (tmB rfl rfl)) ?_
   refine wl_s rfl (want_n rfl rfl rfl rfl rfl) ?_
   refine wl_s rfl (want_n rfl rfl rfl rfl rfl) ?_
   refine wl_s rfl (want_n rfl rfl rfl rfl rfl) ?_
   refine wl_v (x_pickF (tmB rfl rfl) rfl ev_c) ?_
   refine wl_v (x_move (tmB rfl rfl)) ?_
   refine wl_s rfl (want_n rfl rfl rfl rfl rfl) ?_
   refine wl_s rfl (want_n rfl rfl rfl rfl rfl) ?_
   refine wl_v (x_pickF (tmB rfl rfl) rfl ev_c) ?_
   refine wl_v (x_move (tmB rfl rfl)) ?_
   refine wl_s rfl (want_n rfl rfl rfl rfl rfl) ?_
   refine wl_v (x_pickF (tmB rfl rfl) rfl ev_c) ?_
   refine wl_v (x_assign (tmB rfl rfl)) ?_
   refine wl_nil ?_
   refine then_n (hK6 _ _ ?_); clear hK6 K6
   refine wp_ret ?_
   refine ret1 rfl (.tmp rfl (show _ = Value.bool _ from rfl)) ?_
   exact ⟨rfl, hS.kp.below⟩
end Ip4Long
end Go.Proofs.Ytfagblcepibliaa
