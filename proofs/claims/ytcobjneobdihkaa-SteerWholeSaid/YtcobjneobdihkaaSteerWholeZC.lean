import Derived.Test.YtcobjneobdihkaaSteerWholeZB
/- ip4: Size, Fragment, Right, flags and the reference's Right, by contract. Conditions: none but bounds. -/
namespace Go.Proofs.Ytcobjneobdihkaa
open Go.RowKit

def right4P (a : Ad) : Prop := adRight a ∧ a.six = false
instance (a : Ad) : Decidable (right4P a) := by unfold right4P; exact inferInstance
def hdRight (len off : Int) (s d : Ad) (m : Nat) : Prop := m ≤ 40 ∧ m % 4 = 0 ∧ ((20 + m : Nat) : Int) ≤ len ∧ len ≤ 65535 ∧ 0 ≤ off ∧ off ≤ 8191 ∧ right4P s ∧ right4P d
instance (len off : Int) (s d : Ad) (m : Nat) : Decidable (hdRight len off s d m) := by unfold hdRight; exact inferInstance

set_option maxRecDepth 100000 in
set_option maxHeartbeats 4000000 in
theorem ip4_size_c (tos : Nat) (len : Int) (id : Nat) (stay more : Bool) (off : Int) (ttl proto sum : Nat) (s d : Ad) (O : Option Addr) (m c : Nat) (w0 : World) (hm : m ≤ 1000000) :
    Calls Try.prog 26 #[.agg (hdV tos len id stay more off ttl proto sum s d O m c).toArray] w0 fun e w' => e = .returned (.int .i64 ((20 + m : Nat) : Int)) ∧ Kp [] w0 w' := by
  have hS := St.sv w0
  refine ent (n := 7) Try.func26 rfl rfl ?_
  refine wp_seq_k ?_; intro K1 hK1
  refine wlit ?_
  refine wl_e rfl ?_; intro K hK
  refine ow_box hS (tmA rfl rfl) rfl ?_
  clear hS; intro g0_0 w hg0_0 hS
  refine hK _ _ ?_; clear hK K
  refine wl_v (x_assign (ev_cN 0)) ?_
  refine wl_nil ?_
  refine then_n (hK1 _ _ ?_); clear hK1 K1
  refine wp_seq_k ?_; intro K2 hK2
  refine wlit ?_
  refine wl_v (x_fa 15 Try.underlying64 rfl rfl ts_22 (tmP rfl rfl)) ?_
  refine wl_v (x_load Try.underlying22 rfl (tmP rfl rfl) (cellB hS.ok 0 rfl rfl)) ?_
  refine wl_v (x_len Try.underlying22 (tmS rfl rfl)) ?_
  refine wl_v (x_addN (ev_cN 20) (tmI rfl rfl) (fit_i64 (by omega))) ?_
  refine wl_v (x_assign (tmI rfl rfl)) ?_
  refine wl_nil ?_
  refine then_n (hK2 _ _ ?_); clear hK2 K2
  refine wp_ret ?_
  refine ret1 rfl (.tmp rfl (show _ = Value.int _ _ from rfl)) ?_
  exact ⟨rfl, hS.kp⟩
set_option maxRecDepth 100000 in
set_option maxHeartbeats 4000000 in
theorem right4_c (a : Ad) (w0 : World) :
    Calls Try.prog 47 #[.agg a.V.toArray] w0 fun e w' => e = .returned (.bool (decide (right4P a))) ∧ Kp [] w0 w' := by
  have hS := St.sv w0
  refine ent (n := 10) Try.func47 rfl rfl ?_
  refine wp_seq_k ?_; intro K1 hK1
  refine wlit ?_
  refine wl_e rfl ?_; intro K hK
  refine ow_box hS (tmA rfl rfl) rfl ?_
  clear hS; intro g0_0 w hg0_0 hS
  refine hK _ _ ?_; clear hK K
  refine wl_v (x_assign ev_c) ?_
  refine wl_nil ?_
  refine then_n (hK1 _ _ ?_); clear hK1 K1
  refine wp_seq_k ?_; intro K2 hK2
  refine wlit ?_
  refine wl_v (x_loadA (cs := [_, _, _]) Try.underlying26 rfl ts_26 (tmP rfl rfl) (rangeB hS.ok 0 rfl rfl)) ?_
  refine wl_e rfl ?_; intro K hK
  refine ow_call Try.func69 rfl rfl (evs_cons (tmA rfl rfl) <| evs_nil) (ad_right_c a _) ?_
  rintro e w ⟨rfl, hk⟩
  refine ⟨_, rfl, ?_⟩
  replace hS := hS.kept hk
  clear hk
  refine hK _ _ ?_; clear hK K
  refine wl_v (x_move (tmB rfl rfl)) ?_
  refine gs_wl (tm (t := 5) rfl) (fun hg1_2 => ?_) (fun hg1_2 => ?_)
  · have hg1_2' := hg1_2; (try simp only [nrm] at hg1_2')
    refine wl_gv (want_y rfl rfl rfl rfl (by rw [hg1_2]; rfl)) (x_fa 0 Try.underlying26 rfl rfl ts_4 (tmP rfl rfl)) ?_
    refine wl_gv (want_y rfl rfl rfl rfl (by rw [hg1_2]; rfl)) (x_load Try.underlying4 rfl (tmP rfl rfl) (cellB hS.ok 0 rfl rfl)) ?_
    refine wl_gv (want_y rfl rfl rfl rfl (by rw [hg1_2]; rfl)) (x_not (tmB rfl rfl)) ?_
    refine wl_v (x_pickT (tmB rfl rfl) hg1_2 (tmB rfl rfl)) ?_
    refine wl_v (x_assign (tmB rfl rfl)) ?_
    refine wl_nil ?_
    refine then_n (hK2 _ _ ?_); clear hK2 K2
    refine wp_ret ?_
    refine ret1 rfl (.tmp rfl (show _ = Value.bool _ from rfl)) ?_
    refine ⟨ret_bool ?_, hS.kp⟩
    unfold right4P
    first
      | (symm; apply decide_eq_false; rintro ⟨h1, h2⟩; exact absurd h1 (by simpa using hg1_2))
      | (have h1 : adRight a := by simpa using hg1_2
         exact Bool.eq_iff_iff.2 ⟨fun h => decide_eq_true ⟨h1, by simpa using h⟩, fun h => by simpa using (of_decide_eq_true h).2⟩)
  have hg1_2' := hg1_2; (try simp only [nrm] at hg1_2')
  refine wl_s rfl (want_n rfl rfl rfl rfl (by rw [hg1_2]; rfl)) ?_
  refine wl_s rfl (want_n rfl rfl rfl rfl (by rw [hg1_2]; rfl)) ?_
  refine wl_s rfl (want_n rfl rfl rfl rfl (by rw [hg1_2]; rfl)) ?_
  refine wl_v (x_pickF (tmB rfl rfl) hg1_2 ev_c) ?_
  refine wl_v (x_assign (tmB rfl rfl)) ?_
  refine wl_nil ?_
  refine then_n (hK2 _ _ ?_); clear hK2 K2
  refine wp_ret ?_
  refine ret1 rfl (.tmp rfl (show _ = Value.bool _ from rfl)) ?_
  refine ⟨ret_bool ?_, hS.kp⟩
  unfold right4P
  first
    | (symm; apply decide_eq_false; rintro ⟨h1, h2⟩; exact absurd h1 (by simpa using hg1_2))
    | (have h1 : adRight a := by simpa using hg1_2
       exact Bool.eq_iff_iff.2 ⟨fun h => decide_eq_true ⟨h1, by simpa using h⟩, fun h => by simpa using (of_decide_eq_true h).2⟩)
set_option maxRecDepth 100000 in
set_option maxHeartbeats 4000000 in
theorem ip4_right_c (tos : Nat) (len : Int) (id : Nat) (stay more : Bool) (off : Int) (ttl proto sum : Nat) (s d : Ad) (O : Option Addr) (m c : Nat) (w0 : World) (hm : m ≤ 1000000) :
    Calls Try.prog 27 #[.agg (hdV tos len id stay more off ttl proto sum s d O m c).toArray] w0 fun e w' => e = .returned (.bool (decide (hdRight len off s d m))) ∧ Kp [] w0 w' := by
  have hS := St.sv w0
  refine ent (n := 46) Try.func27 rfl rfl ?_
  refine wp_seq_k ?_; intro K1 hK1
  refine wlit ?_
  refine wl_e rfl ?_; intro K hK
  refine ow_box hS (tmA rfl rfl) rfl ?_
  clear hS; intro g0_0 w hg0_0 hS
  refine hK _ _ ?_; clear hK K
  refine wl_v (x_assign ev_c) ?_
  refine wl_nil ?_
  refine then_n (hK1 _ _ ?_); clear hK1 K1
  refine wp_seq_k ?_; intro K2 hK2
  refine rg_startk 0 hS mixed_ ?_
  clear hS; intro w hS
  refine rg_take 0 rfl rfl (by kernel_rfl) (by kernel_rfl) (by kernel_rfl) (want_0) (fun w hok => x_fa 15 Try.underlying64 rfl rfl ts_22 (tmP rfl rfl)) ?_
  refine rg_take 1 rfl rfl (by kernel_rfl) (by kernel_rfl) (by kernel_rfl) (want_0) (fun w hok => x_load Try.underlying22 rfl (tmP rfl rfl) (cellB hok 0 rfl rfl)) ?_
  refine rg_take 2 rfl rfl (by kernel_rfl) (by kernel_rfl) (by kernel_rfl) (want_0) (fun w hok => x_len Try.underlying22 (tmS rfl rfl)) ?_
  refine rg_take 3 rfl rfl (by kernel_rfl) (by kernel_rfl) (by kernel_rfl) (want_0) (fun w hok => x_leq (tmI rfl rfl) (ev_cN 40)) ?_
  refine rg_take 4 rfl rfl (by kernel_rfl) (by kernel_rfl) (by kernel_rfl) (want_0) (fun w hok => x_move (tmB rfl rfl)) ?_
  refine gs_rg (tm (t := 7) rfl) (fun hg1_4 => ?_) (fun hg1_4 => ?_)
  · have hg1_4' := hg1_4; (try simp only [nrm] at hg1_4')
    refine rg_take 5 rfl rfl (by kernel_rfl) (by kernel_rfl) (by kernel_rfl) (want_y rfl rfl rfl rfl (by rw [hg1_4]; rfl)) (fun w hok => x_fa 15 Try.underlying64 rfl rfl ts_22 (tmP rfl rfl)) ?_
    refine rg_take 6 rfl rfl (by kernel_rfl) (by kernel_rfl) (by kernel_rfl) (want_y rfl rfl rfl rfl (by rw [hg1_4]; rfl)) (fun w hok => x_load Try.underlying22 rfl (tmP rfl rfl) (cellB hok 0 rfl rfl)) ?_
    refine rg_take 7 rfl rfl (by kernel_rfl) (by kernel_rfl) (by kernel_rfl) (want_y rfl rfl rfl rfl (by rw [hg1_4]; rfl)) (fun w hok => x_len Try.underlying22 (tmS rfl rfl)) ?_
    refine rg_take 8 rfl rfl (by kernel_rfl) (by kernel_rfl) (by kernel_rfl) (want_y rfl rfl rfl rfl (by rw [hg1_4]; rfl)) (fun w hok => x_remN (tmI rfl rfl) (ev_cN 4) (by omega)) ?_
    refine rg_take 9 rfl rfl (by kernel_rfl) (by kernel_rfl) (by kernel_rfl) (want_y rfl rfl rfl rfl (by rw [hg1_4]; rfl)) (fun w hok => x_eql (tmI rfl rfl) (ev_cN 0)) ?_
    refine rg_take 10 rfl rfl (by kernel_rfl) (by kernel_rfl) (by kernel_rfl) (want_0) (fun w hok => x_pickT (tmB rfl rfl) hg1_4 (tmB rfl rfl)) ?_
    refine rg_take 11 rfl rfl (by kernel_rfl) (by kernel_rfl) (by kernel_rfl) (want_0) (fun w hok => x_move (tmB rfl rfl)) ?_
    refine gs_rg (tm (t := 14) rfl) (fun hg1_11 => ?_) (fun hg1_11 => ?_)
    · have hg1_11' := hg1_11; (try simp only [nrm] at hg1_11')
      refine rg_take 12 rfl rfl (by kernel_rfl) (by kernel_rfl) (by kernel_rfl) (want_y rfl rfl rfl rfl (by rw [hg1_11]; rfl)) (fun w hok => x_fa 1 Try.underlying64 rfl rfl ts_3 (tmP rfl rfl)) ?_
      refine rg_take 13 rfl rfl (by kernel_rfl) (by kernel_rfl) (by kernel_rfl) (want_y rfl rfl rfl rfl (by rw [hg1_11]; rfl)) (fun w hok => x_load Try.underlying3 rfl (tmP rfl rfl) (cellB hok 0 rfl rfl)) ?_
      refine rg_take 14 rfl rfl (by kernel_rfl) (by kernel_rfl) (by kernel_rfl) (want_y rfl rfl rfl rfl (by rw [hg1_11]; rfl)) (fun w hok => x_loadA (cs := [_, _, _, _, _, _, _, _, _, _, _, _, _, _, _, _]) Try.underlying64 rfl ts_64 (tmP rfl rfl) (rangeB hok 0 rfl rfl)) ?_
      refine rg_step 15 rfl (by kernel_rfl) (want_y rfl rfl rfl rfl (by rw [hg1_11]; rfl)) (oks_drop hS 0 rfl) ?_; intro K hK
      refine ow_call Try.func26 rfl rfl (evs_cons (tmA rfl rfl) <| evs_nil) (ip4_size_c _ _ _ _ _ _ _ _ _ _ _ _ m _ _ hm) ?_
      rintro e w ⟨rfl, hk⟩
      refine ⟨_, rfl, ?_⟩
      replace hS := hS.kept hk
      clear hk
      refine hK _ _ ?_; clear hK K
      refine rg_take 16 rfl rfl (by kernel_rfl) (by kernel_rfl) (by kernel_rfl) (want_y rfl rfl rfl rfl (by rw [hg1_11]; rfl)) (fun w hok => x_geq (tmI rfl rfl) (tmI rfl rfl)) ?_
      refine rg_take 17 rfl rfl (by kernel_rfl) (by kernel_rfl) (by kernel_rfl) (want_0) (fun w hok => x_pickT (tmB rfl rfl) hg1_11 (tmB rfl rfl)) ?_
      refine rg_take 18 rfl rfl (by kernel_rfl) (by kernel_rfl) (by kernel_rfl) (want_0) (fun w hok => x_move (tmB rfl rfl)) ?_
      refine gs_rg (tm (t := 21) rfl) (fun hg1_18 => ?_) (fun hg1_18 => ?_)
      · have hg1_18' := hg1_18; (try simp only [nrm] at hg1_18')
        refine rg_take 19 rfl rfl (by kernel_rfl) (by kernel_rfl) (by kernel_rfl) (want_y rfl rfl rfl rfl (by rw [hg1_18]; rfl)) (fun w hok => x_fa 1 Try.underlying64 rfl rfl ts_3 (tmP rfl rfl)) ?_
        refine rg_take 20 rfl rfl (by kernel_rfl) (by kernel_rfl) (by kernel_rfl) (want_y rfl rfl rfl rfl (by rw [hg1_18]; rfl)) (fun w hok => x_load Try.underlying3 rfl (tmP rfl rfl) (cellB hok 0 rfl rfl)) ?_
        refine rg_take 21 rfl rfl (by kernel_rfl) (by kernel_rfl) (by kernel_rfl) (want_y rfl rfl rfl rfl (by rw [hg1_18]; rfl)) (fun w hok => x_leq (tmI rfl rfl) (ev_cN 65535)) ?_
        refine rg_take 22 rfl rfl (by kernel_rfl) (by kernel_rfl) (by kernel_rfl) (want_0) (fun w hok => x_pickT (tmB rfl rfl) hg1_18 (tmB rfl rfl)) ?_
        refine rg_take 23 rfl rfl (by kernel_rfl) (by kernel_rfl) (by kernel_rfl) (want_0) (fun w hok => x_move (tmB rfl rfl)) ?_
        refine gs_rg (tm (t := 26) rfl) (fun hg1_23 => ?_) (fun hg1_23 => ?_)
        · have hg1_23' := hg1_23; (try simp only [nrm] at hg1_23')
          refine rg_take 24 rfl rfl (by kernel_rfl) (by kernel_rfl) (by kernel_rfl) (want_y rfl rfl rfl rfl (by rw [hg1_23]; rfl)) (fun w hok => x_fa 5 Try.underlying64 rfl rfl ts_3 (tmP rfl rfl)) ?_
          refine rg_take 25 rfl rfl (by kernel_rfl) (by kernel_rfl) (by kernel_rfl) (want_y rfl rfl rfl rfl (by rw [hg1_23]; rfl)) (fun w hok => x_load Try.underlying3 rfl (tmP rfl rfl) (cellB hok 0 rfl rfl)) ?_
          refine rg_take 26 rfl rfl (by kernel_rfl) (by kernel_rfl) (by kernel_rfl) (want_y rfl rfl rfl rfl (by rw [hg1_23]; rfl)) (fun w hok => x_geq (tmI rfl rfl) (ev_cN 0)) ?_
          refine rg_take 27 rfl rfl (by kernel_rfl) (by kernel_rfl) (by kernel_rfl) (want_0) (fun w hok => x_pickT (tmB rfl rfl) hg1_23 (tmB rfl rfl)) ?_
          refine rg_take 28 rfl rfl (by kernel_rfl) (by kernel_rfl) (by kernel_rfl) (want_0) (fun w hok => x_move (tmB rfl rfl)) ?_
          refine gs_rg (tm (t := 31) rfl) (fun hg1_28 => ?_) (fun hg1_28 => ?_)
          · have hg1_28' := hg1_28; (try simp only [nrm] at hg1_28')
            refine rg_take 29 rfl rfl (by kernel_rfl) (by kernel_rfl) (by kernel_rfl) (want_y rfl rfl rfl rfl (by rw [hg1_28]; rfl)) (fun w hok => x_fa 5 Try.underlying64 rfl rfl ts_3 (tmP rfl rfl)) ?_
            refine rg_take 30 rfl rfl (by kernel_rfl) (by kernel_rfl) (by kernel_rfl) (want_y rfl rfl rfl rfl (by rw [hg1_28]; rfl)) (fun w hok => x_load Try.underlying3 rfl (tmP rfl rfl) (cellB hok 0 rfl rfl)) ?_
            refine rg_take 31 rfl rfl (by kernel_rfl) (by kernel_rfl) (by kernel_rfl) (want_y rfl rfl rfl rfl (by rw [hg1_28]; rfl)) (fun w hok => x_leq (tmI rfl rfl) (ev_cN 8191)) ?_
            refine rg_take 32 rfl rfl (by kernel_rfl) (by kernel_rfl) (by kernel_rfl) (want_0) (fun w hok => x_pickT (tmB rfl rfl) hg1_28 (tmB rfl rfl)) ?_
            refine rg_take 33 rfl rfl (by kernel_rfl) (by kernel_rfl) (by kernel_rfl) (want_0) (fun w hok => x_move (tmB rfl rfl)) ?_
            refine gs_rg (tm (t := 36) rfl) (fun hg1_33 => ?_) (fun hg1_33 => ?_)
            · have hg1_33' := hg1_33; (try simp only [nrm] at hg1_33')
              refine rg_take 34 rfl rfl (by kernel_rfl) (by kernel_rfl) (by kernel_rfl) (want_y rfl rfl rfl rfl (by rw [hg1_33]; rfl)) (fun w hok => x_fa 9 Try.underlying64 rfl rfl ts_26 (tmP rfl rfl)) ?_
              refine rg_take 35 rfl rfl (by kernel_rfl) (by kernel_rfl) (by kernel_rfl) (want_y rfl rfl rfl rfl (by rw [hg1_33]; rfl)) (fun w hok => x_loadA (cs := [_, _, _]) Try.underlying26 rfl ts_26 (tmP rfl rfl) (rangeB hok 0 rfl rfl)) ?_
              refine rg_step 36 rfl (by kernel_rfl) (want_y rfl rfl rfl rfl (by rw [hg1_33]; rfl)) (oks_drop hS 0 rfl) ?_; intro K hK
              refine ow_call Try.func47 rfl rfl (evs_cons (tmA rfl rfl) <| evs_nil) (right4_c s _) ?_
              rintro e w ⟨rfl, hk⟩
              refine ⟨_, rfl, ?_⟩
              replace hS := hS.kept hk
              clear hk
              refine hK _ _ ?_; clear hK K
              refine rg_take 37 rfl rfl (by kernel_rfl) (by kernel_rfl) (by kernel_rfl) (want_0) (fun w hok => x_pickT (tmB rfl rfl) hg1_33 (tmB rfl rfl)) ?_
              refine rg_take 38 rfl rfl (by kernel_rfl) (by kernel_rfl) (by kernel_rfl) (want_0) (fun w hok => x_move (tmB rfl rfl)) ?_
              refine gs_rg (tm (t := 41) rfl) (fun hg1_38 => ?_) (fun hg1_38 => ?_)
              · have hg1_38' := hg1_38; (try simp only [nrm] at hg1_38')
                refine rg_take 39 rfl rfl (by kernel_rfl) (by kernel_rfl) (by kernel_rfl) (want_y rfl rfl rfl rfl (by rw [hg1_38]; rfl)) (fun w hok => x_fa 12 Try.underlying64 rfl rfl ts_26 (tmP rfl rfl)) ?_
                refine rg_take 40 rfl rfl (by kernel_rfl) (by kernel_rfl) (by kernel_rfl) (want_y rfl rfl rfl rfl (by rw [hg1_38]; rfl)) (fun w hok => x_loadA (cs := [_, _, _]) Try.underlying26 rfl ts_26 (tmP rfl rfl) (rangeB hok 0 rfl rfl)) ?_
                refine rg_step 41 rfl (by kernel_rfl) (want_y rfl rfl rfl rfl (by rw [hg1_38]; rfl)) (oks_drop hS 0 rfl) ?_; intro K hK
                refine ow_call Try.func47 rfl rfl (evs_cons (tmA rfl rfl) <| evs_nil) (right4_c d _) ?_
                rintro e w ⟨rfl, hk⟩
                refine ⟨_, rfl, ?_⟩
                replace hS := hS.kept hk
                clear hk
                refine hK _ _ ?_; clear hK K
                refine rg_take 42 rfl rfl (by kernel_rfl) (by kernel_rfl) (by kernel_rfl) (want_0) (fun w hok => x_pickT (tmB rfl rfl) hg1_38 (tmB rfl rfl)) ?_
                refine rg_take 43 rfl rfl (by kernel_rfl) (by kernel_rfl) (by kernel_rfl) (want_0) (fun w hok => x_assign (tmB rfl rfl)) ?_
                refine rg_done (oks_drop hS 0 rfl) (by kernel_rfl) ?_
                refine then_n (hK2 _ _ ?_); clear hK2 K2
                refine wp_ret ?_
                refine ret1 rfl (.tmp rfl (show _ = Value.bool _ from rfl)) ?_
                refine ⟨ret_bool ?_, hS.kp⟩
                clear hS
                unfold hdRight
                apply decide_eq_decide.2; exact ⟨fun h => ⟨by omega, by omega, by omega, by omega, by omega, by omega, by simpa using hg1_38, h⟩, fun h => h.2.2.2.2.2.2.2⟩
              have hg1_38' := hg1_38; (try simp only [nrm] at hg1_38')
              refine rg_skip 39 rfl rfl (by kernel_rfl) (by kernel_rfl) (by kernel_rfl) (want_n rfl rfl rfl rfl (by rw [hg1_38]; rfl)) ?_
              refine rg_skip 40 rfl rfl (by kernel_rfl) (by kernel_rfl) (by kernel_rfl) (want_n rfl rfl rfl rfl (by rw [hg1_38]; rfl)) ?_
              refine rg_skip 41 rfl rfl (by kernel_rfl) (by kernel_rfl) (by kernel_rfl) (want_n rfl rfl rfl rfl (by rw [hg1_38]; rfl)) ?_
              refine rg_take 42 rfl rfl (by kernel_rfl) (by kernel_rfl) (by kernel_rfl) (want_0) (fun w hok => x_pickF (tmB rfl rfl) hg1_38 ev_c) ?_
              refine rg_take 43 rfl rfl (by kernel_rfl) (by kernel_rfl) (by kernel_rfl) (want_0) (fun w hok => x_assign (tmB rfl rfl)) ?_
              refine rg_done (oks_drop hS 0 rfl) (by kernel_rfl) ?_
              refine then_n (hK2 _ _ ?_); clear hK2 K2
              refine wp_ret ?_
              refine ret1 rfl (.tmp rfl (show _ = Value.bool _ from rfl)) ?_
              refine ⟨ret_bool ?_, hS.kp⟩
              clear hS
              unfold hdRight
              symm; apply decide_eq_false; rintro ⟨h1, h2, h3, h4, h5, h6, h7, h8⟩; first | omega | exact absurd h7 (by simpa using hg1_38)
            have hg1_33' := hg1_33; (try simp only [nrm] at hg1_33')
            refine rg_skip 34 rfl rfl (by kernel_rfl) (by kernel_rfl) (by kernel_rfl) (want_n rfl rfl rfl rfl (by rw [hg1_33]; rfl)) ?_
            refine rg_skip 35 rfl rfl (by kernel_rfl) (by kernel_rfl) (by kernel_rfl) (want_n rfl rfl rfl rfl (by rw [hg1_33]; rfl)) ?_
            refine rg_skip 36 rfl rfl (by kernel_rfl) (by kernel_rfl) (by kernel_rfl) (want_n rfl rfl rfl rfl (by rw [hg1_33]; rfl)) ?_
            refine rg_take 37 rfl rfl (by kernel_rfl) (by kernel_rfl) (by kernel_rfl) (want_0) (fun w hok => x_pickF (tmB rfl rfl) hg1_33 ev_c) ?_
            refine rg_take 38 rfl rfl (by kernel_rfl) (by kernel_rfl) (by kernel_rfl) (want_0) (fun w hok => x_move (tmB rfl rfl)) ?_
            refine rg_skip 39 rfl rfl (by kernel_rfl) (by kernel_rfl) (by kernel_rfl) (want_n rfl rfl rfl rfl rfl) ?_
            refine rg_skip 40 rfl rfl (by kernel_rfl) (by kernel_rfl) (by kernel_rfl) (want_n rfl rfl rfl rfl rfl) ?_
            refine rg_skip 41 rfl rfl (by kernel_rfl) (by kernel_rfl) (by kernel_rfl) (want_n rfl rfl rfl rfl rfl) ?_
            refine rg_take 42 rfl rfl (by kernel_rfl) (by kernel_rfl) (by kernel_rfl) (want_0) (fun w hok => x_pickF (tmB rfl rfl) rfl ev_c) ?_
            refine rg_take 43 rfl rfl (by kernel_rfl) (by kernel_rfl) (by kernel_rfl) (want_0) (fun w hok => x_assign (tmB rfl rfl)) ?_
            refine rg_done (oks_drop hS 0 rfl) (by kernel_rfl) ?_
            refine then_n (hK2 _ _ ?_); clear hK2 K2
            refine wp_ret ?_
            refine ret1 rfl (.tmp rfl (show _ = Value.bool _ from rfl)) ?_
            refine ⟨ret_bool ?_, hS.kp⟩
            clear hS
            unfold hdRight
            symm; apply decide_eq_false; rintro ⟨h1, h2, h3, h4, h5, h6, h7, h8⟩; first | omega | exact absurd h7 (by simpa using hg1_38)
          have hg1_28' := hg1_28; (try simp only [nrm] at hg1_28')
          refine rg_skip 29 rfl rfl (by kernel_rfl) (by kernel_rfl) (by kernel_rfl) (want_n rfl rfl rfl rfl (by rw [hg1_28]; rfl)) ?_
          refine rg_skip 30 rfl rfl (by kernel_rfl) (by kernel_rfl) (by kernel_rfl) (want_n rfl rfl rfl rfl (by rw [hg1_28]; rfl)) ?_
          refine rg_skip 31 rfl rfl (by kernel_rfl) (by kernel_rfl) (by kernel_rfl) (want_n rfl rfl rfl rfl (by rw [hg1_28]; rfl)) ?_
          refine rg_take 32 rfl rfl (by kernel_rfl) (by kernel_rfl) (by kernel_rfl) (want_0) (fun w hok => x_pickF (tmB rfl rfl) hg1_28 ev_c) ?_
          refine rg_take 33 rfl rfl (by kernel_rfl) (by kernel_rfl) (by kernel_rfl) (want_0) (fun w hok => x_move (tmB rfl rfl)) ?_
          refine rg_skip 34 rfl rfl (by kernel_rfl) (by kernel_rfl) (by kernel_rfl) (want_n rfl rfl rfl rfl rfl) ?_
          refine rg_skip 35 rfl rfl (by kernel_rfl) (by kernel_rfl) (by kernel_rfl) (want_n rfl rfl rfl rfl rfl) ?_
          refine rg_skip 36 rfl rfl (by kernel_rfl) (by kernel_rfl) (by kernel_rfl) (want_n rfl rfl rfl rfl rfl) ?_
          refine rg_take 37 rfl rfl (by kernel_rfl) (by kernel_rfl) (by kernel_rfl) (want_0) (fun w hok => x_pickF (tmB rfl rfl) rfl ev_c) ?_
          refine rg_take 38 rfl rfl (by kernel_rfl) (by kernel_rfl) (by kernel_rfl) (want_0) (fun w hok => x_move (tmB rfl rfl)) ?_
          refine rg_skip 39 rfl rfl (by kernel_rfl) (by kernel_rfl) (by kernel_rfl) (want_n rfl rfl rfl rfl rfl) ?_
          refine rg_skip 40 rfl rfl (by kernel_rfl) (by kernel_rfl) (by kernel_rfl) (want_n rfl rfl rfl rfl rfl) ?_
          refine rg_skip 41 rfl rfl (by kernel_rfl) (by kernel_rfl) (by kernel_rfl) (want_n rfl rfl rfl rfl rfl) ?_
          refine rg_take 42 rfl rfl (by kernel_rfl) (by kernel_rfl) (by kernel_rfl) (want_0) (fun w hok => x_pickF (tmB rfl rfl) rfl ev_c) ?_
          refine rg_take 43 rfl rfl (by kernel_rfl) (by kernel_rfl) (by kernel_rfl) (want_0) (fun w hok => x_assign (tmB rfl rfl)) ?_
          refine rg_done (oks_drop hS 0 rfl) (by kernel_rfl) ?_
          refine then_n (hK2 _ _ ?_); clear hK2 K2
          refine wp_ret ?_
          refine ret1 rfl (.tmp rfl (show _ = Value.bool _ from rfl)) ?_
          refine ⟨ret_bool ?_, hS.kp⟩
          clear hS
          unfold hdRight
          symm; apply decide_eq_false; rintro ⟨h1, h2, h3, h4, h5, h6, h7, h8⟩; first | omega | exact absurd h7 (by simpa using hg1_38)
        have hg1_23' := hg1_23; (try simp only [nrm] at hg1_23')
        refine rg_skip 24 rfl rfl (by kernel_rfl) (by kernel_rfl) (by kernel_rfl) (want_n rfl rfl rfl rfl (by rw [hg1_23]; rfl)) ?_
        refine rg_skip 25 rfl rfl (by kernel_rfl) (by kernel_rfl) (by kernel_rfl) (want_n rfl rfl rfl rfl (by rw [hg1_23]; rfl)) ?_
        refine rg_skip 26 rfl rfl (by kernel_rfl) (by kernel_rfl) (by kernel_rfl) (want_n rfl rfl rfl rfl (by rw [hg1_23]; rfl)) ?_
        refine rg_take 27 rfl rfl (by kernel_rfl) (by kernel_rfl) (by kernel_rfl) (want_0) (fun w hok => x_pickF (tmB rfl rfl) hg1_23 ev_c) ?_
        refine rg_take 28 rfl rfl (by kernel_rfl) (by kernel_rfl) (by kernel_rfl) (want_0) (fun w hok => x_move (tmB rfl rfl)) ?_
        refine rg_skip 29 rfl rfl (by kernel_rfl) (by kernel_rfl) (by kernel_rfl) (want_n rfl rfl rfl rfl rfl) ?_
        refine rg_skip 30 rfl rfl (by kernel_rfl) (by kernel_rfl) (by kernel_rfl) (want_n rfl rfl rfl rfl rfl) ?_
        refine rg_skip 31 rfl rfl (by kernel_rfl) (by kernel_rfl) (by kernel_rfl) (want_n rfl rfl rfl rfl rfl) ?_
        refine rg_take 32 rfl rfl (by kernel_rfl) (by kernel_rfl) (by kernel_rfl) (want_0) (fun w hok => x_pickF (tmB rfl rfl) rfl ev_c) ?_
        refine rg_take 33 rfl rfl (by kernel_rfl) (by kernel_rfl) (by kernel_rfl) (want_0) (fun w hok => x_move (tmB rfl rfl)) ?_
        refine rg_skip 34 rfl rfl (by kernel_rfl) (by kernel_rfl) (by kernel_rfl) (want_n rfl rfl rfl rfl rfl) ?_
        refine rg_skip 35 rfl rfl (by kernel_rfl) (by kernel_rfl) (by kernel_rfl) (want_n rfl rfl rfl rfl rfl) ?_
        refine rg_skip 36 rfl rfl (by kernel_rfl) (by kernel_rfl) (by kernel_rfl) (want_n rfl rfl rfl rfl rfl) ?_
        refine rg_take 37 rfl rfl (by kernel_rfl) (by kernel_rfl) (by kernel_rfl) (want_0) (fun w hok => x_pickF (tmB rfl rfl) rfl ev_c) ?_
        refine rg_take 38 rfl rfl (by kernel_rfl) (by kernel_rfl) (by kernel_rfl) (want_0) (fun w hok => x_move (tmB rfl rfl)) ?_
        refine rg_skip 39 rfl rfl (by kernel_rfl) (by kernel_rfl) (by kernel_rfl) (want_n rfl rfl rfl rfl rfl) ?_
        refine rg_skip 40 rfl rfl (by kernel_rfl) (by kernel_rfl) (by kernel_rfl) (want_n rfl rfl rfl rfl rfl) ?_
        refine rg_skip 41 rfl rfl (by kernel_rfl) (by kernel_rfl) (by kernel_rfl) (want_n rfl rfl rfl rfl rfl) ?_
        refine rg_take 42 rfl rfl (by kernel_rfl) (by kernel_rfl) (by kernel_rfl) (want_0) (fun w hok => x_pickF (tmB rfl rfl) rfl ev_c) ?_
        refine rg_take 43 rfl rfl (by kernel_rfl) (by kernel_rfl) (by kernel_rfl) (want_0) (fun w hok => x_assign (tmB rfl rfl)) ?_
        refine rg_done (oks_drop hS 0 rfl) (by kernel_rfl) ?_
        refine then_n (hK2 _ _ ?_); clear hK2 K2
        refine wp_ret ?_
        refine ret1 rfl (.tmp rfl (show _ = Value.bool _ from rfl)) ?_
        refine ⟨ret_bool ?_, hS.kp⟩
        clear hS
        unfold hdRight
        symm; apply decide_eq_false; rintro ⟨h1, h2, h3, h4, h5, h6, h7, h8⟩; first | omega | exact absurd h7 (by simpa using hg1_38)
      have hg1_18' := hg1_18; (try simp only [nrm] at hg1_18')
      refine rg_skip 19 rfl rfl (by kernel_rfl) (by kernel_rfl) (by kernel_rfl) (want_n rfl rfl rfl rfl (by rw [hg1_18]; rfl)) ?_
      refine rg_skip 20 rfl rfl (by kernel_rfl) (by kernel_rfl) (by kernel_rfl) (want_n rfl rfl rfl rfl (by rw [hg1_18]; rfl)) ?_
      refine rg_skip 21 rfl rfl (by kernel_rfl) (by kernel_rfl) (by kernel_rfl) (want_n rfl rfl rfl rfl (by rw [hg1_18]; rfl)) ?_
      refine rg_take 22 rfl rfl (by kernel_rfl) (by kernel_rfl) (by kernel_rfl) (want_0) (fun w hok => x_pickF (tmB rfl rfl) hg1_18 ev_c) ?_
      refine rg_take 23 rfl rfl (by kernel_rfl) (by kernel_rfl) (by kernel_rfl) (want_0) (fun w hok => x_move (tmB rfl rfl)) ?_
      refine rg_skip 24 rfl rfl (by kernel_rfl) (by kernel_rfl) (by kernel_rfl) (want_n rfl rfl rfl rfl rfl) ?_
      refine rg_skip 25 rfl rfl (by kernel_rfl) (by kernel_rfl) (by kernel_rfl) (want_n rfl rfl rfl rfl rfl) ?_
      refine rg_skip 26 rfl rfl (by kernel_rfl) (by kernel_rfl) (by kernel_rfl) (want_n rfl rfl rfl rfl rfl) ?_
      refine rg_take 27 rfl rfl (by kernel_rfl) (by kernel_rfl) (by kernel_rfl) (want_0) (fun w hok => x_pickF (tmB rfl rfl) rfl ev_c) ?_
      refine rg_take 28 rfl rfl (by kernel_rfl) (by kernel_rfl) (by kernel_rfl) (want_0) (fun w hok => x_move (tmB rfl rfl)) ?_
      refine rg_skip 29 rfl rfl (by kernel_rfl) (by kernel_rfl) (by kernel_rfl) (want_n rfl rfl rfl rfl rfl) ?_
      refine rg_skip 30 rfl rfl (by kernel_rfl) (by kernel_rfl) (by kernel_rfl) (want_n rfl rfl rfl rfl rfl) ?_
      refine rg_skip 31 rfl rfl (by kernel_rfl) (by kernel_rfl) (by kernel_rfl) (want_n rfl rfl rfl rfl rfl) ?_
      refine rg_take 32 rfl rfl (by kernel_rfl) (by kernel_rfl) (by kernel_rfl) (want_0) (fun w hok => x_pickF (tmB rfl rfl) rfl ev_c) ?_
      refine rg_take 33 rfl rfl (by kernel_rfl) (by kernel_rfl) (by kernel_rfl) (want_0) (fun w hok => x_move (tmB rfl rfl)) ?_
      refine rg_skip 34 rfl rfl (by kernel_rfl) (by kernel_rfl) (by kernel_rfl) (want_n rfl rfl rfl rfl rfl) ?_
      refine rg_skip 35 rfl rfl (by kernel_rfl) (by kernel_rfl) (by kernel_rfl) (want_n rfl rfl rfl rfl rfl) ?_
      refine rg_skip 36 rfl rfl (by kernel_rfl) (by kernel_rfl) (by kernel_rfl) (want_n rfl rfl rfl rfl rfl) ?_
      refine rg_take 37 rfl rfl (by kernel_rfl) (by kernel_rfl) (by kernel_rfl) (want_0) (fun w hok => x_pickF (tmB rfl rfl) rfl ev_c) ?_
      refine rg_take 38 rfl rfl (by kernel_rfl) (by kernel_rfl) (by kernel_rfl) (want_0) (fun w hok => x_move (tmB rfl rfl)) ?_
      refine rg_skip 39 rfl rfl (by kernel_rfl) (by kernel_rfl) (by kernel_rfl) (want_n rfl rfl rfl rfl rfl) ?_
      refine rg_skip 40 rfl rfl (by kernel_rfl) (by kernel_rfl) (by kernel_rfl) (want_n rfl rfl rfl rfl rfl) ?_
      refine rg_skip 41 rfl rfl (by kernel_rfl) (by kernel_rfl) (by kernel_rfl) (want_n rfl rfl rfl rfl rfl) ?_
      refine rg_take 42 rfl rfl (by kernel_rfl) (by kernel_rfl) (by kernel_rfl) (want_0) (fun w hok => x_pickF (tmB rfl rfl) rfl ev_c) ?_
      refine rg_take 43 rfl rfl (by kernel_rfl) (by kernel_rfl) (by kernel_rfl) (want_0) (fun w hok => x_assign (tmB rfl rfl)) ?_
      refine rg_done (oks_drop hS 0 rfl) (by kernel_rfl) ?_
      refine then_n (hK2 _ _ ?_); clear hK2 K2
      refine wp_ret ?_
      refine ret1 rfl (.tmp rfl (show _ = Value.bool _ from rfl)) ?_
      refine ⟨ret_bool ?_, hS.kp⟩
      clear hS
      unfold hdRight
      symm; apply decide_eq_false; rintro ⟨h1, h2, h3, h4, h5, h6, h7, h8⟩; first | omega | exact absurd h7 (by simpa using hg1_38)
    have hg1_11' := hg1_11; (try simp only [nrm] at hg1_11')
    refine rg_skip 12 rfl rfl (by kernel_rfl) (by kernel_rfl) (by kernel_rfl) (want_n rfl rfl rfl rfl (by rw [hg1_11]; rfl)) ?_
    refine rg_skip 13 rfl rfl (by kernel_rfl) (by kernel_rfl) (by kernel_rfl) (want_n rfl rfl rfl rfl (by rw [hg1_11]; rfl)) ?_
    refine rg_skip 14 rfl rfl (by kernel_rfl) (by kernel_rfl) (by kernel_rfl) (want_n rfl rfl rfl rfl (by rw [hg1_11]; rfl)) ?_
    refine rg_skip 15 rfl rfl (by kernel_rfl) (by kernel_rfl) (by kernel_rfl) (want_n rfl rfl rfl rfl (by rw [hg1_11]; rfl)) ?_
    refine rg_skip 16 rfl rfl (by kernel_rfl) (by kernel_rfl) (by kernel_rfl) (want_n rfl rfl rfl rfl (by rw [hg1_11]; rfl)) ?_
    refine rg_take 17 rfl rfl (by kernel_rfl) (by kernel_rfl) (by kernel_rfl) (want_0) (fun w hok => x_pickF (tmB rfl rfl) hg1_11 ev_c) ?_
    refine rg_take 18 rfl rfl (by kernel_rfl) (by kernel_rfl) (by kernel_rfl) (want_0) (fun w hok => x_move (tmB rfl rfl)) ?_
    refine rg_skip 19 rfl rfl (by kernel_rfl) (by kernel_rfl) (by kernel_rfl) (want_n rfl rfl rfl rfl rfl) ?_
    refine rg_skip 20 rfl rfl (by kernel_rfl) (by kernel_rfl) (by kernel_rfl) (want_n rfl rfl rfl rfl rfl) ?_
    refine rg_skip 21 rfl rfl (by kernel_rfl) (by kernel_rfl) (by kernel_rfl) (want_n rfl rfl rfl rfl rfl) ?_
    refine rg_take 22 rfl rfl (by kernel_rfl) (by kernel_rfl) (by kernel_rfl) (want_0) (fun w hok => x_pickF (tmB rfl rfl) rfl ev_c) ?_
    refine rg_take 23 rfl rfl (by kernel_rfl) (by kernel_rfl) (by kernel_rfl) (want_0) (fun w hok => x_move (tmB rfl rfl)) ?_
    refine rg_skip 24 rfl rfl (by kernel_rfl) (by kernel_rfl) (by kernel_rfl) (want_n rfl rfl rfl rfl rfl) ?_
    refine rg_skip 25 rfl rfl (by kernel_rfl) (by kernel_rfl) (by kernel_rfl) (want_n rfl rfl rfl rfl rfl) ?_
    refine rg_skip 26 rfl rfl (by kernel_rfl) (by kernel_rfl) (by kernel_rfl) (want_n rfl rfl rfl rfl rfl) ?_
    refine rg_take 27 rfl rfl (by kernel_rfl) (by kernel_rfl) (by kernel_rfl) (want_0) (fun w hok => x_pickF (tmB rfl rfl) rfl ev_c) ?_
    refine rg_take 28 rfl rfl (by kernel_rfl) (by kernel_rfl) (by kernel_rfl) (want_0) (fun w hok => x_move (tmB rfl rfl)) ?_
    refine rg_skip 29 rfl rfl (by kernel_rfl) (by kernel_rfl) (by kernel_rfl) (want_n rfl rfl rfl rfl rfl) ?_
    refine rg_skip 30 rfl rfl (by kernel_rfl) (by kernel_rfl) (by kernel_rfl) (want_n rfl rfl rfl rfl rfl) ?_
    refine rg_skip 31 rfl rfl (by kernel_rfl) (by kernel_rfl) (by kernel_rfl) (want_n rfl rfl rfl rfl rfl) ?_
    refine rg_take 32 rfl rfl (by kernel_rfl) (by kernel_rfl) (by kernel_rfl) (want_0) (fun w hok => x_pickF (tmB rfl rfl) rfl ev_c) ?_
    refine rg_take 33 rfl rfl (by kernel_rfl) (by kernel_rfl) (by kernel_rfl) (want_0) (fun w hok => x_move (tmB rfl rfl)) ?_
    refine rg_skip 34 rfl rfl (by kernel_rfl) (by kernel_rfl) (by kernel_rfl) (want_n rfl rfl rfl rfl rfl) ?_
    refine rg_skip 35 rfl rfl (by kernel_rfl) (by kernel_rfl) (by kernel_rfl) (want_n rfl rfl rfl rfl rfl) ?_
    refine rg_skip 36 rfl rfl (by kernel_rfl) (by kernel_rfl) (by kernel_rfl) (want_n rfl rfl rfl rfl rfl) ?_
    refine rg_take 37 rfl rfl (by kernel_rfl) (by kernel_rfl) (by kernel_rfl) (want_0) (fun w hok => x_pickF (tmB rfl rfl) rfl ev_c) ?_
    refine rg_take 38 rfl rfl (by kernel_rfl) (by kernel_rfl) (by kernel_rfl) (want_0) (fun w hok => x_move (tmB rfl rfl)) ?_
    refine rg_skip 39 rfl rfl (by kernel_rfl) (by kernel_rfl) (by kernel_rfl) (want_n rfl rfl rfl rfl rfl) ?_
    refine rg_skip 40 rfl rfl (by kernel_rfl) (by kernel_rfl) (by kernel_rfl) (want_n rfl rfl rfl rfl rfl) ?_
    refine rg_skip 41 rfl rfl (by kernel_rfl) (by kernel_rfl) (by kernel_rfl) (want_n rfl rfl rfl rfl rfl) ?_
    refine rg_take 42 rfl rfl (by kernel_rfl) (by kernel_rfl) (by kernel_rfl) (want_0) (fun w hok => x_pickF (tmB rfl rfl) rfl ev_c) ?_
    refine rg_take 43 rfl rfl (by kernel_rfl) (by kernel_rfl) (by kernel_rfl) (want_0) (fun w hok => x_assign (tmB rfl rfl)) ?_
    refine rg_done (oks_drop hS 0 rfl) (by kernel_rfl) ?_
    refine then_n (hK2 _ _ ?_); clear hK2 K2
    refine wp_ret ?_
    refine ret1 rfl (.tmp rfl (show _ = Value.bool _ from rfl)) ?_
    refine ⟨ret_bool ?_, hS.kp⟩
    clear hS
    unfold hdRight
    symm; apply decide_eq_false; rintro ⟨h1, h2, h3, h4, h5, h6, h7, h8⟩; first | omega | exact absurd h7 (by simpa using hg1_38)
  have hg1_4' := hg1_4; (try simp only [nrm] at hg1_4')
  refine rg_skip 5 rfl rfl (by kernel_rfl) (by kernel_rfl) (by kernel_rfl) (want_n rfl rfl rfl rfl (by rw [hg1_4]; rfl)) ?_
  refine rg_skip 6 rfl rfl (by kernel_rfl) (by kernel_rfl) (by kernel_rfl) (want_n rfl rfl rfl rfl (by rw [hg1_4]; rfl)) ?_
  refine rg_skip 7 rfl rfl (by kernel_rfl) (by kernel_rfl) (by kernel_rfl) (want_n rfl rfl rfl rfl (by rw [hg1_4]; rfl)) ?_
  refine rg_skip 8 rfl rfl (by kernel_rfl) (by kernel_rfl) (by kernel_rfl) (want_n rfl rfl rfl rfl (by rw [hg1_4]; rfl)) ?_
  refine rg_skip 9 rfl rfl (by kernel_rfl) (by kernel_rfl) (by kernel_rfl) (want_n rfl rfl rfl rfl (by rw [hg1_4]; rfl)) ?_
  refine rg_take 10 rfl rfl (by kernel_rfl) (by kernel_rfl) (by kernel_rfl) (want_0) (fun w hok => x_pickF (tmB rfl rfl) hg1_4 ev_c) ?_
  refine rg_take 11 rfl rfl (by kernel_rfl) (by kernel_rfl) (by kernel_rfl) (want_0) (fun w hok => x_move (tmB rfl rfl)) ?_
  refine rg_skip 12 rfl rfl (by kernel_rfl) (by kernel_rfl) (by kernel_rfl) (want_n rfl rfl rfl rfl rfl) ?_
  refine rg_skip 13 rfl rfl (by kernel_rfl) (by kernel_rfl) (by kernel_rfl) (want_n rfl rfl rfl rfl rfl) ?_
  refine rg_skip 14 rfl rfl (by kernel_rfl) (by kernel_rfl) (by kernel_rfl) (want_n rfl rfl rfl rfl rfl) ?_
  refine rg_skip 15 rfl rfl (by kernel_rfl) (by kernel_rfl) (by kernel_rfl) (want_n rfl rfl rfl rfl rfl) ?_
  refine rg_skip 16 rfl rfl (by kernel_rfl) (by kernel_rfl) (by kernel_rfl) (want_n rfl rfl rfl rfl rfl) ?_
  refine rg_take 17 rfl rfl (by kernel_rfl) (by kernel_rfl) (by kernel_rfl) (want_0) (fun w hok => x_pickF (tmB rfl rfl) rfl ev_c) ?_
  refine rg_take 18 rfl rfl (by kernel_rfl) (by kernel_rfl) (by kernel_rfl) (want_0) (fun w hok => x_move (tmB rfl rfl)) ?_
  refine rg_skip 19 rfl rfl (by kernel_rfl) (by kernel_rfl) (by kernel_rfl) (want_n rfl rfl rfl rfl rfl) ?_
  refine rg_skip 20 rfl rfl (by kernel_rfl) (by kernel_rfl) (by kernel_rfl) (want_n rfl rfl rfl rfl rfl) ?_
  refine rg_skip 21 rfl rfl (by kernel_rfl) (by kernel_rfl) (by kernel_rfl) (want_n rfl rfl rfl rfl rfl) ?_
  refine rg_take 22 rfl rfl (by kernel_rfl) (by kernel_rfl) (by kernel_rfl) (want_0) (fun w hok => x_pickF (tmB rfl rfl) rfl ev_c) ?_
  refine rg_take 23 rfl rfl (by kernel_rfl) (by kernel_rfl) (by kernel_rfl) (want_0) (fun w hok => x_move (tmB rfl rfl)) ?_
  refine rg_skip 24 rfl rfl (by kernel_rfl) (by kernel_rfl) (by kernel_rfl) (want_n rfl rfl rfl rfl rfl) ?_
  refine rg_skip 25 rfl rfl (by kernel_rfl) (by kernel_rfl) (by kernel_rfl) (want_n rfl rfl rfl rfl rfl) ?_
  refine rg_skip 26 rfl rfl (by kernel_rfl) (by kernel_rfl) (by kernel_rfl) (want_n rfl rfl rfl rfl rfl) ?_
  refine rg_take 27 rfl rfl (by kernel_rfl) (by kernel_rfl) (by kernel_rfl) (want_0) (fun w hok => x_pickF (tmB rfl rfl) rfl ev_c) ?_
  refine rg_take 28 rfl rfl (by kernel_rfl) (by kernel_rfl) (by kernel_rfl) (want_0) (fun w hok => x_move (tmB rfl rfl)) ?_
  refine rg_skip 29 rfl rfl (by kernel_rfl) (by kernel_rfl) (by kernel_rfl) (want_n rfl rfl rfl rfl rfl) ?_
  refine rg_skip 30 rfl rfl (by kernel_rfl) (by kernel_rfl) (by kernel_rfl) (want_n rfl rfl rfl rfl rfl) ?_
  refine rg_skip 31 rfl rfl (by kernel_rfl) (by kernel_rfl) (by kernel_rfl) (want_n rfl rfl rfl rfl rfl) ?_
  refine rg_take 32 rfl rfl (by kernel_rfl) (by kernel_rfl) (by kernel_rfl) (want_0) (fun w hok => x_pickF (tmB rfl rfl) rfl ev_c) ?_
  refine rg_take 33 rfl rfl (by kernel_rfl) (by kernel_rfl) (by kernel_rfl) (want_0) (fun w hok => x_move (tmB rfl rfl)) ?_
  refine rg_skip 34 rfl rfl (by kernel_rfl) (by kernel_rfl) (by kernel_rfl) (want_n rfl rfl rfl rfl rfl) ?_
  refine rg_skip 35 rfl rfl (by kernel_rfl) (by kernel_rfl) (by kernel_rfl) (want_n rfl rfl rfl rfl rfl) ?_
  refine rg_skip 36 rfl rfl (by kernel_rfl) (by kernel_rfl) (by kernel_rfl) (want_n rfl rfl rfl rfl rfl) ?_
  refine rg_take 37 rfl rfl (by kernel_rfl) (by kernel_rfl) (by kernel_rfl) (want_0) (fun w hok => x_pickF (tmB rfl rfl) rfl ev_c) ?_
  refine rg_take 38 rfl rfl (by kernel_rfl) (by kernel_rfl) (by kernel_rfl) (want_0) (fun w hok => x_move (tmB rfl rfl)) ?_
  refine rg_skip 39 rfl rfl (by kernel_rfl) (by kernel_rfl) (by kernel_rfl) (want_n rfl rfl rfl rfl rfl) ?_
  refine rg_skip 40 rfl rfl (by kernel_rfl) (by kernel_rfl) (by kernel_rfl) (want_n rfl rfl rfl rfl rfl) ?_
  refine rg_skip 41 rfl rfl (by kernel_rfl) (by kernel_rfl) (by kernel_rfl) (want_n rfl rfl rfl rfl rfl) ?_
  refine rg_take 42 rfl rfl (by kernel_rfl) (by kernel_rfl) (by kernel_rfl) (want_0) (fun w hok => x_pickF (tmB rfl rfl) rfl ev_c) ?_
  refine rg_take 43 rfl rfl (by kernel_rfl) (by kernel_rfl) (by kernel_rfl) (want_0) (fun w hok => x_assign (tmB rfl rfl)) ?_
  refine rg_done (oks_drop hS 0 rfl) (by kernel_rfl) ?_
  refine then_n (hK2 _ _ ?_); clear hK2 K2
  refine wp_ret ?_
  refine ret1 rfl (.tmp rfl (show _ = Value.bool _ from rfl)) ?_
  refine ⟨ret_bool ?_, hS.kp⟩
  clear hS
  unfold hdRight
  symm; apply decide_eq_false; rintro ⟨h1, h2, h3, h4, h5, h6, h7, h8⟩; first | omega | exact absurd h7 (by simpa using hg1_38)
def flN (off : Nat) (stay more : Bool) : Nat := off + cond stay 16384 0 + cond more 8192 0
theorem or_16384 {x : Nat} (h : x < 16384) : x ||| 16384 = x + 16384 := by
  have h1 := Nat.two_pow_add_eq_or_of_lt (i := 14) (b := x) (by omega) 1
  have h2 : 16384 + x = 16384 ||| x := h1
  rw [Nat.or_comm]; omega
theorem or_8192 {x : Nat} (h : x < 8192) : x ||| 8192 = x + 8192 := by
  have h1 := Nat.two_pow_add_eq_or_of_lt (i := 13) (b := x) (by omega) 1
  have h2 : 8192 + x = 8192 ||| x := h1
  rw [Nat.or_comm]; omega
theorem or_both {x : Nat} (h : x < 8192) : (x + 16384) ||| 8192 = x + 16384 + 8192 := by
  rw [← or_16384 (by omega), Nat.or_assoc, Nat.or_comm 16384, ← Nat.or_assoc, or_8192 h]
  have h3 := or_16384 (x := x + 8192) (by omega)
  have h4 := or_16384 (x := x) (by omega)
  omega
set_option maxRecDepth 100000 in
set_option maxHeartbeats 4000000 in
theorem ip4_flags_c (tos : Nat) (len : Int) (id : Nat) (stay more : Bool) (off : Nat) (ttl proto sum : Nat) (s d : Ad) (O : Option Addr) (m c : Nat) (w0 : World) (ho : off < 8192) :
    Calls Try.prog 49 #[.agg (hdV tos len id stay more (off : Int) ttl proto sum s d O m c).toArray] w0 fun e w' => e = .returned (.int .u64 ((flN off stay more : Nat) : Int)) ∧ Kp [] w0 w' := by
  have hS := St.sv w0
  have o1 := or_16384 (x := off) (by omega)
  have o2 := or_8192 ho
  have o3 := or_both ho
  refine ent (n := 16) Try.func49 rfl rfl ?_
  refine wp_seq_k ?_; intro K1 hK1
  refine wlit ?_
  refine wl_e rfl ?_; intro K hK
  refine ow_box hS (tmA rfl rfl) rfl ?_
  clear hS; intro g0_0 w hg0_0 hS
  refine hK _ _ ?_; clear hK K
  refine wl_v (x_assign (ev_cN 0)) ?_
  refine wl_nil ?_
  refine then_n (hK1 _ _ ?_); clear hK1 K1
  refine wp_seq_k ?_; intro K2 hK2
  refine wlit ?_
  refine wl_v (x_fa 5 Try.underlying64 rfl rfl ts_3 (tmP rfl rfl)) ?_
  refine wl_v (x_load Try.underlying3 rfl (tmP rfl rfl) (cellB hS.ok 0 rfl rfl)) ?_
  refine wl_v (x_convN Try.underlying3 Try.underlying24 (tmI rfl rfl) (fit_u64 (by omega))) ?_
  refine wl_v (x_assign (tmI rfl rfl)) ?_
  refine wl_nil ?_
  refine then_n (hK2 _ _ ?_); clear hK2 K2
  refine wp_seq_k ?_; intro K3 hK3
  refine wp_seq_k ?_; intro K4 hK4
  refine wlit ?_
  refine wl_v (x_fa 3 Try.underlying64 rfl rfl ts_4 (tmP rfl rfl)) ?_
  refine wl_v (x_load Try.underlying4 rfl (tmP rfl rfl) (cellB hS.ok 0 rfl rfl)) ?_
  refine wl_nil ?_
  refine then_n (hK4 _ _ ?_); clear hK4 K4
  refine cnd (tm rfl) (fun hc0 => ?_) (fun hc0 => ?_)
  · skip
    try simp only [nrm] at hc0
    obtain rfl : stay = true := hc0
    refine wlit ?_
    refine wl_v (x_move (tmI rfl rfl)) ?_
    refine wl_v (x_orN (tmI rfl rfl) (ev_cN 16384) (fit_u64 (by omega)) (fit_u64 (by omega))) ?_
    refine wl_v (x_assign (tmI rfl (congrArg (fun q : Nat => Value.int .u64 (q : Int)) o1))) ?_
    refine wl_nil ?_
    refine then_n (hK3 _ _ ?_); clear hK3 K3
    refine wp_seq_k ?_; intro K5 hK5
    refine wp_seq_k ?_; intro K6 hK6
    refine wlit ?_
    refine wl_v (x_fa 4 Try.underlying64 rfl rfl ts_4 (tmP rfl rfl)) ?_
    refine wl_v (x_load Try.underlying4 rfl (tmP rfl rfl) (cellB hS.ok 0 rfl rfl)) ?_
    refine wl_nil ?_
    refine then_n (hK6 _ _ ?_); clear hK6 K6
    refine cnd (tm rfl) (fun hc1 => ?_) (fun hc1 => ?_)
    · skip
      try simp only [nrm] at hc1
      obtain rfl : more = true := hc1
      refine wlit ?_
      refine wl_v (x_move (tmI rfl rfl)) ?_
      refine wl_v (x_orN (tmI rfl rfl) (ev_cN 8192) (fit_u64 (by omega)) (fit_u64 (by omega))) ?_
      refine wl_v (x_assign (tmI rfl (congrArg (fun q : Nat => Value.int .u64 (q : Int)) o3))) ?_
      refine wl_nil ?_
      refine then_n (hK5 _ _ ?_); clear hK5 K5
      refine wp_seq_k ?_; intro K7 hK7
      refine wlit ?_
      refine wl_v (x_move (tmI rfl rfl)) ?_
      refine wl_v (x_assign (tmI rfl rfl)) ?_
      refine wl_nil ?_
      refine then_n (hK7 _ _ ?_); clear hK7 K7
      refine wp_ret ?_
      refine ret1 rfl (.tmp rfl (show _ = Value.int _ _ from rfl)) ?_
      exact ⟨rfl, hS.kp⟩
    try simp only [nrm] at hc1
    obtain rfl : more = false := hc1
    refine wp_skip ?_
    refine then_n (hK5 _ _ ?_); clear hK5 K5
    refine wp_seq_k ?_; intro K8 hK8
    refine wlit ?_
    refine wl_v (x_move (tmI rfl rfl)) ?_
    refine wl_v (x_assign (tmI rfl rfl)) ?_
    refine wl_nil ?_
    refine then_n (hK8 _ _ ?_); clear hK8 K8
    refine wp_ret ?_
    refine ret1 rfl (.tmp rfl (show _ = Value.int _ _ from rfl)) ?_
    exact ⟨rfl, hS.kp⟩
  try simp only [nrm] at hc0
  obtain rfl : stay = false := hc0
  refine wp_skip ?_
  refine then_n (hK3 _ _ ?_); clear hK3 K3
  refine wp_seq_k ?_; intro K9 hK9
  refine wp_seq_k ?_; intro K10 hK10
  refine wlit ?_
  refine wl_v (x_fa 4 Try.underlying64 rfl rfl ts_4 (tmP rfl rfl)) ?_
  refine wl_v (x_load Try.underlying4 rfl (tmP rfl rfl) (cellB hS.ok 0 rfl rfl)) ?_
  refine wl_nil ?_
  refine then_n (hK10 _ _ ?_); clear hK10 K10
  refine cnd (tm rfl) (fun hc1 => ?_) (fun hc1 => ?_)
  · skip
    try simp only [nrm] at hc1
    obtain rfl : more = true := hc1
    refine wlit ?_
    refine wl_v (x_move (tmI rfl rfl)) ?_
    refine wl_v (x_orN (tmI rfl rfl) (ev_cN 8192) (fit_u64 (by omega)) (fit_u64 (by omega))) ?_
    refine wl_v (x_assign (tmI rfl (congrArg (fun q : Nat => Value.int .u64 (q : Int)) o2))) ?_
    refine wl_nil ?_
    refine then_n (hK9 _ _ ?_); clear hK9 K9
    refine wp_seq_k ?_; intro K11 hK11
    refine wlit ?_
    refine wl_v (x_move (tmI rfl rfl)) ?_
    refine wl_v (x_assign (tmI rfl rfl)) ?_
    refine wl_nil ?_
    refine then_n (hK11 _ _ ?_); clear hK11 K11
    refine wp_ret ?_
    refine ret1 rfl (.tmp rfl (show _ = Value.int _ _ from rfl)) ?_
    exact ⟨rfl, hS.kp⟩
  try simp only [nrm] at hc1
  obtain rfl : more = false := hc1
  refine wp_skip ?_
  refine then_n (hK9 _ _ ?_); clear hK9 K9
  refine wp_seq_k ?_; intro K12 hK12
  refine wlit ?_
  refine wl_v (x_move (tmI rfl rfl)) ?_
  refine wl_v (x_assign (tmI rfl rfl)) ?_
  refine wl_nil ?_
  refine then_n (hK12 _ _ ?_); clear hK12 K12
  refine wp_ret ?_
  refine ret1 rfl (.tmp rfl (show _ = Value.int _ _ from rfl)) ?_
  exact ⟨rfl, hS.kp⟩
end Go.Proofs.Ytcobjneobdihkaa
/- ip4: Bytes, Packet and the references', by contract. Conditions: none but bounds. -/
namespace Go.Proofs.Ytcobjneobdihkaa
open Go.RowKit

def hd4B (tos len id fl ttl proto ck sl dl : Nat) (o : List Nat) : List Nat := [] ++ be (64 + (20 + o.length) / 4) 1 ++ be tos 1 ++ be len 2 ++ be id 2 ++ be fl 2 ++ be ttl 1 ++ be proto 1 ++ be ck 2 ++ be sl 4 ++ be dl 4 ++ o
def hd4C (tos len id fl ttl proto sl dl : Nat) (o : List Nat) : Nat := 65535 - foldN (psum (hd4B tos len id fl ttl proto 0 sl dl o) (20 + o.length))
theorem hd4B_len (tos len id fl ttl proto ck sl dl : Nat) (o : List Nat) : (hd4B tos len id fl ttl proto ck sl dl o).length = 20 + o.length := by simp [hd4B, be_length]; omega
theorem hd4B_bytes (tos len id fl ttl proto ck sl dl : Nat) {o : List Nat} (ho : Bytes o) : Bytes (hd4B tos len id fl ttl proto ck sl dl o) := by
  unfold hd4B
  repeat' (first | assumption | exact Bytes.nil | exact be_bytes _ _ | apply Bytes.append)
theorem splice_at {P x y Q : List Nat} {p : Nat} (hp : P.length = p) (h : x.length = y.length) : splice (P ++ (x ++ Q)) p y = P ++ (y ++ Q) := by
  subst hp
  unfold splice
  rw [List.take_left, List.drop_append, ← h]
  simp
theorem hd4B_sum (tos len id fl ttl proto ck sl dl : Nat) (o : List Nat) : splice (hd4B tos len id fl ttl proto 0 sl dl o) 10 (be ck 2) = hd4B tos len id fl ttl proto ck sl dl o := by
  have h := splice_at (P := [] ++ be (64 + (20 + o.length) / 4) 1 ++ be tos 1 ++ be len 2 ++ be id 2 ++ be fl 2 ++ be ttl 1 ++ be proto 1) (x := be 0 2) (y := be ck 2) (Q := be sl 4 ++ be dl 4 ++ o) (p := 10) (by simp [be_length]) (by simp [be_length])
  simp only [hd4B, List.append_assoc] at h ⊢
  exact h
set_option maxRecDepth 100000 in
set_option maxHeartbeats 8000000 in
theorem ip4_bytes_c (tos len id : Nat) (stay more : Bool) (off ttl proto sum sl dl : Nat) (O : Option Addr) (c : Nat) (o : List Nat) (w0 : World) (h1 : View w0 w0.heap.size O (o.map u8v)) (hob : Bytes o)
    (q1 : tos < 256) (q3 : id < 65536) (q7 : ttl < 256) (q8 : proto < 256) (hr : hdRight (len : Int) (off : Int) ⟨false, 0, sl⟩ ⟨false, 0, dl⟩ o.length) :
    Calls Try.prog 28 #[.agg (hdV tos (len : Int) id stay more (off : Int) ttl proto sum ⟨false, 0, sl⟩ ⟨false, 0, dl⟩ O o.length c).toArray] w0 fun e w' => ∃ A' n c', n = 20 + o.length ∧ e = .returned (.slice A' n c') ∧ New w0 w' (.row (.slice A' n c') 5 1 n ((hd4B tos len id (flN off stay more) ttl proto (hd4C tos len id (flN off stay more) ttl proto sl dl o) sl dl o).map u8v)) ∧ Kp [] w0 w' := by
  have hS := (St.sv w0).vcons rfl h1
  have hr' := hr
  obtain ⟨r1, r2, r3, r4, r5, r6, ⟨r7, _⟩, ⟨r8, _⟩⟩ := hr'
  have r7' : sl ≤ 4294967295 := by rcases r7 with h | h; cases h; exact h.2
  have r8' : dl ≤ 4294967295 := by rcases r8 with h | h; cases h; exact h.2
  have hls : adLim ⟨false, 0, sl⟩ := ⟨(by show (0 : Nat) ≤ _; omega), (by show sl ≤ _; omega)⟩
  have hld : adLim ⟨false, 0, dl⟩ := ⟨(by show (0 : Nat) ≤ _; omega), (by show dl ≤ _; omega)⟩
  have hfl : flN off stay more ≤ 32767 := by unfold flN; cases stay <;> cases more <;> simp <;> omega
  have hlen := hd4B_len tos len id (flN off stay more) ttl proto 0 sl dl o
  have hby := hd4B_bytes tos len id (flN off stay more) ttl proto 0 sl dl hob
  have hck := foldN_bd (psum (hd4B tos len id (flN off stay more) ttl proto 0 sl dl o) (20 + o.length))
  have h64 : 64 ||| (20 + o.length) / 4 = 64 + (20 + o.length) / 4 := by
    have h2 : 64 + (20 + o.length) / 4 = 64 ||| (20 + o.length) / 4 := Nat.two_pow_add_eq_or_of_lt (i := 6) (b := (20 + o.length) / 4) (by omega) 1
    omega
  have hsum := hd4B_sum tos len id (flN off stay more) ttl proto (hd4C tos len id (flN off stay more) ttl proto sl dl o) sl dl o
  have hB0 : hd4B tos len id (flN off stay more) ttl proto 0 sl dl o = [] ++ be (64 + (20 + o.length) / 4) 1 ++ be tos 1 ++ be len 2 ++ be id 2 ++ be (flN off stay more) 2 ++ be ttl 1 ++ be proto 1 ++ be 0 2 ++ be sl 4 ++ be dl 4 ++ o := rfl
  refine ent (n := 68) Try.func28 rfl rfl ?_
  refine wp_seq_k ?_; intro K1 hK1
  refine wlit ?_
  refine wl_e rfl ?_; intro K hK
  refine ow_box hS (tmA rfl rfl) rfl ?_
  clear hS; intro g0_0 w hg0_0 hS
  refine hK _ _ ?_; clear hK K
  refine wl_v (x_assign ev_c) ?_
  refine wl_nil ?_
  refine then_n (hK1 _ _ ?_); clear hK1 K1
  refine wp_seq_k ?_; intro K2 hK2
  refine wp_seq_k ?_; intro K3 hK3
  refine wlit ?_
  refine wl_v (x_loadA (cs := [_, _, _, _, _, _, _, _, _, _, _, _, _, _, _, _]) Try.underlying64 rfl ts_64 (tmP rfl rfl) (rangeB hS.ok 0 rfl rfl)) ?_
  refine wl_e rfl ?_; intro K hK
  refine ow_call Try.func27 rfl rfl (evs_cons (tmA rfl rfl) <| evs_nil) (ip4_right_c _ _ _ _ _ _ _ _ _ _ _ _ _ _ _ (by omega)) ?_
  rintro e w ⟨rfl, hk⟩
  refine ⟨_, rfl, ?_⟩
  replace hS := hS.kept hk
  clear hk
  refine hK _ _ ?_; clear hK K
  refine wl_v (x_not (tmB rfl rfl)) ?_
  refine wl_nil ?_
  refine then_n (hK3 _ _ ?_); clear hK3 K3
  refine cnd (tm rfl) (fun hc0 => ?_) (fun hc0 => ?_)
  · exfalso
    simp at hc0
    exact hc0 hr
  try simp only [nrm] at hc0
  refine wp_skip ?_
  refine then_n (hK2 _ _ ?_); clear hK2 K2
  refine wp_seq_k ?_; intro K4 hK4
  refine wlit ?_
  refine wl_v (x_loadA (cs := [_, _, _, _, _, _, _, _, _, _, _, _, _, _, _, _]) Try.underlying64 rfl ts_64 (tmP rfl rfl) (rangeB hS.ok 0 rfl rfl)) ?_
  refine wl_e rfl ?_; intro K hK
  refine ow_call Try.func26 rfl rfl (evs_cons (tmA rfl rfl) <| evs_nil) (ip4_size_c _ _ _ _ _ _ _ _ _ _ _ _ _ _ _ (by omega)) ?_
  rintro e w ⟨rfl, hk⟩
  refine ⟨_, rfl, ?_⟩
  replace hS := hS.kept hk
  clear hk
  refine hK _ _ ?_; clear hK K
  refine wl_v (x_quoN (tmI rfl rfl) (ev_cN 4) (by omega) (fit_i64 (by omega))) ?_
  refine wl_v (x_orN (ev_cN 64) (tmI rfl rfl) (fit_i64 (by omega)) (fit_i64 (by omega))) ?_
  refine wl_v (x_convN Try.underlying3 Try.underlying24 (tmI rfl (congrArg (fun q : Nat => Value.int .i64 (q : Int)) h64)) (fit_u64 (by omega))) ?_
  refine wl_e rfl ?_; intro K hK
  refine ow_call Try.func48 rfl rfl (evs_cons ev_c <| evs_cons (tmI rfl rfl) <| evs_cons (ev_cN 1) <| evs_nil) (put_c 0 none 0 [] _ 1 _ View.nil_ rfl (by omega) (by omega) (by omega)) ?_
  rintro e w ⟨g1, rfl, hn, hk⟩
  refine ⟨_, rfl, ?_⟩
  replace hS := hS.add hk hn -- +rowb
  clear hn hk
  refine hK _ _ ?_; clear hK K
  refine wl_v (x_assign (tmS rfl rfl)) ?_
  refine wl_nil ?_
  refine then_n (hK4 _ _ ?_); clear hK4 K4
  refine wp_seq_k ?_; intro K5 hK5
  refine wlit ?_
  refine wl_v (x_move (tmS rfl rfl)) ?_
  refine wl_v (x_fa 0 Try.underlying64 rfl rfl ts_5 (tmP rfl rfl)) ?_
  refine wl_v (x_load Try.underlying5 rfl (tmP rfl rfl) (cellB hS.ok 1 rfl rfl)) ?_
  refine wl_v (x_convN Try.underlying5 Try.underlying24 (tmI rfl rfl) (fit_u64 (by omega))) ?_
  refine wl_e rfl ?_; intro K hK
  refine ow_call Try.func48 rfl rfl (evs_cons (tmS rfl rfl) <| evs_cons (tmI rfl rfl) <| evs_cons (ev_cN 1) <| evs_nil) (put_c _ _ _ _ _ _ _ (viewR hS.ok 0 rfl) (by simp [be_length]) (by omega) (by omega) (by omega)) ?_
  rintro e w ⟨g2, rfl, hn, hk⟩
  refine ⟨_, rfl, ?_⟩
  replace hS := (hS.add hk hn).pick [0, 2, 3] rfl rfl --ents rowb,g0_0,vo
  clear hn hk
  try replace hS := St.nm (M' := [.row _ _ _ _ _, .blk _ _ [_, _, _, _, _, _, _, _, _, _, _, _, _, _, _, _], .vw _ _]) hS rfl
  refine hK _ _ ?_; clear hK K
  refine wl_v (x_assign (tmS rfl rfl)) ?_
  refine wl_nil ?_
  refine then_n (hK5 _ _ ?_); clear hK5 K5
  refine wp_seq_k ?_; intro K6 hK6
  refine wlit ?_
  refine wl_v (x_move (tmS rfl rfl)) ?_
  refine wl_v (x_fa 1 Try.underlying64 rfl rfl ts_3 (tmP rfl rfl)) ?_
  refine wl_v (x_load Try.underlying3 rfl (tmP rfl rfl) (cellB hS.ok 1 rfl rfl)) ?_
  refine wl_v (x_convN Try.underlying3 Try.underlying24 (tmI rfl rfl) (fit_u64 (by omega))) ?_
  refine wl_e rfl ?_; intro K hK
  refine ow_call Try.func48 rfl rfl (evs_cons (tmS rfl rfl) <| evs_cons (tmI rfl rfl) <| evs_cons (ev_cN 2) <| evs_nil) (put_c _ _ _ _ _ _ _ (viewR hS.ok 0 rfl) (by simp [be_length]) (by omega) (by omega) (by omega)) ?_
  rintro e w ⟨g2, rfl, hn, hk⟩
  refine ⟨_, rfl, ?_⟩
  replace hS := (hS.add hk hn).pick [0, 2, 3] rfl rfl --ents rowb,g0_0,vo
  clear hn hk
  try replace hS := St.nm (M' := [.row _ _ _ _ _, .blk _ _ [_, _, _, _, _, _, _, _, _, _, _, _, _, _, _, _], .vw _ _]) hS rfl
  refine hK _ _ ?_; clear hK K
  refine wl_v (x_assign (tmS rfl rfl)) ?_
  refine wl_nil ?_
  refine then_n (hK6 _ _ ?_); clear hK6 K6
  refine wp_seq_k ?_; intro K7 hK7
  refine wlit ?_
  refine wl_v (x_move (tmS rfl rfl)) ?_
  refine wl_v (x_fa 2 Try.underlying64 rfl rfl ts_27 (tmP rfl rfl)) ?_
  refine wl_v (x_load Try.underlying27 rfl (tmP rfl rfl) (cellB hS.ok 1 rfl rfl)) ?_
  refine wl_v (x_convN Try.underlying27 Try.underlying24 (tmI rfl rfl) (fit_u64 (by omega))) ?_
  refine wl_e rfl ?_; intro K hK
  refine ow_call Try.func48 rfl rfl (evs_cons (tmS rfl rfl) <| evs_cons (tmI rfl rfl) <| evs_cons (ev_cN 2) <| evs_nil) (put_c _ _ _ _ _ _ _ (viewR hS.ok 0 rfl) (by simp [be_length]) (by omega) (by omega) (by omega)) ?_
  rintro e w ⟨g2, rfl, hn, hk⟩
  refine ⟨_, rfl, ?_⟩
  replace hS := (hS.add hk hn).pick [0, 2, 3] rfl rfl --ents rowb,g0_0,vo
  clear hn hk
  try replace hS := St.nm (M' := [.row _ _ _ _ _, .blk _ _ [_, _, _, _, _, _, _, _, _, _, _, _, _, _, _, _], .vw _ _]) hS rfl
  refine hK _ _ ?_; clear hK K
  refine wl_v (x_assign (tmS rfl rfl)) ?_
  refine wl_nil ?_
  refine then_n (hK7 _ _ ?_); clear hK7 K7
  refine wp_seq_k ?_; intro K8 hK8
  refine wlit ?_
  refine wl_v (x_move (tmS rfl rfl)) ?_
  refine wl_v (x_loadA (cs := [_, _, _, _, _, _, _, _, _, _, _, _, _, _, _, _]) Try.underlying64 rfl ts_64 (tmP rfl rfl) (rangeB hS.ok 1 rfl rfl)) ?_
  refine wl_e rfl ?_; intro K hK
  refine ow_call Try.func49 rfl rfl (evs_cons (tmA rfl rfl) <| evs_nil) (ip4_flags_c _ _ _ _ _ _ _ _ _ _ _ _ _ _ _ (by omega)) ?_
  rintro e w ⟨rfl, hk⟩
  refine ⟨_, rfl, ?_⟩
  replace hS := hS.kept hk
  clear hk
  refine hK _ _ ?_; clear hK K
  refine wl_e rfl ?_; intro K hK
  refine ow_call Try.func48 rfl rfl (evs_cons (tmS rfl rfl) <| evs_cons (tmI rfl rfl) <| evs_cons (ev_cN 2) <| evs_nil) (put_c _ _ _ _ _ _ _ (viewR hS.ok 0 rfl) (by simp [be_length]) (by omega) (by omega) (by omega)) ?_
  rintro e w ⟨g2, rfl, hn, hk⟩
  refine ⟨_, rfl, ?_⟩
  replace hS := (hS.add hk hn).pick [0, 2, 3] rfl rfl --ents rowb,g0_0,vo
  clear hn hk
  try replace hS := St.nm (M' := [.row _ _ _ _ _, .blk _ _ [_, _, _, _, _, _, _, _, _, _, _, _, _, _, _, _], .vw _ _]) hS rfl
  refine hK _ _ ?_; clear hK K
  refine wl_v (x_assign (tmS rfl rfl)) ?_
  refine wl_nil ?_
  refine then_n (hK8 _ _ ?_); clear hK8 K8
  refine wp_seq_k ?_; intro K9 hK9
  refine wlit ?_
  refine wl_v (x_move (tmS rfl rfl)) ?_
  refine wl_v (x_fa 6 Try.underlying64 rfl rfl ts_5 (tmP rfl rfl)) ?_
  refine wl_v (x_load Try.underlying5 rfl (tmP rfl rfl) (cellB hS.ok 1 rfl rfl)) ?_
  refine wl_v (x_convN Try.underlying5 Try.underlying24 (tmI rfl rfl) (fit_u64 (by omega))) ?_
  refine wl_e rfl ?_; intro K hK
  refine ow_call Try.func48 rfl rfl (evs_cons (tmS rfl rfl) <| evs_cons (tmI rfl rfl) <| evs_cons (ev_cN 1) <| evs_nil) (put_c _ _ _ _ _ _ _ (viewR hS.ok 0 rfl) (by simp [be_length]) (by omega) (by omega) (by omega)) ?_
  rintro e w ⟨g2, rfl, hn, hk⟩
  refine ⟨_, rfl, ?_⟩
  replace hS := (hS.add hk hn).pick [0, 2, 3] rfl rfl --ents rowb,g0_0,vo
  clear hn hk
  try replace hS := St.nm (M' := [.row _ _ _ _ _, .blk _ _ [_, _, _, _, _, _, _, _, _, _, _, _, _, _, _, _], .vw _ _]) hS rfl
  refine hK _ _ ?_; clear hK K
  refine wl_v (x_assign (tmS rfl rfl)) ?_
  refine wl_nil ?_
  refine then_n (hK9 _ _ ?_); clear hK9 K9
  refine wp_seq_k ?_; intro K10 hK10
  refine wlit ?_
  refine wl_v (x_move (tmS rfl rfl)) ?_
  refine wl_v (x_fa 7 Try.underlying64 rfl rfl ts_5 (tmP rfl rfl)) ?_
  refine wl_v (x_load Try.underlying5 rfl (tmP rfl rfl) (cellB hS.ok 1 rfl rfl)) ?_
  refine wl_v (x_convN Try.underlying5 Try.underlying24 (tmI rfl rfl) (fit_u64 (by omega))) ?_
  refine wl_e rfl ?_; intro K hK
  refine ow_call Try.func48 rfl rfl (evs_cons (tmS rfl rfl) <| evs_cons (tmI rfl rfl) <| evs_cons (ev_cN 1) <| evs_nil) (put_c _ _ _ _ _ _ _ (viewR hS.ok 0 rfl) (by simp [be_length]) (by omega) (by omega) (by omega)) ?_
  rintro e w ⟨g2, rfl, hn, hk⟩
  refine ⟨_, rfl, ?_⟩
  replace hS := (hS.add hk hn).pick [0, 2, 3] rfl rfl --ents rowb,g0_0,vo
  clear hn hk
  try replace hS := St.nm (M' := [.row _ _ _ _ _, .blk _ _ [_, _, _, _, _, _, _, _, _, _, _, _, _, _, _, _], .vw _ _]) hS rfl
  refine hK _ _ ?_; clear hK K
  refine wl_v (x_assign (tmS rfl rfl)) ?_
  refine wl_nil ?_
  refine then_n (hK10 _ _ ?_); clear hK10 K10
  refine wp_seq_k ?_; intro K11 hK11
  refine wlit ?_
  refine wl_v (x_move (tmS rfl rfl)) ?_
  refine wl_e rfl ?_; intro K hK
  refine ow_call Try.func48 rfl rfl (evs_cons (tmS rfl rfl) <| evs_cons (ev_cN 0) <| evs_cons (ev_cN 2) <| evs_nil) (put_c _ _ _ _ _ _ _ (viewR hS.ok 0 rfl) (by simp [be_length]) (by omega) (by omega) (by omega)) ?_
  rintro e w ⟨g2, rfl, hn, hk⟩
  refine ⟨_, rfl, ?_⟩
  replace hS := (hS.add hk hn).pick [0, 2, 3] rfl rfl --ents rowb,g0_0,vo
  clear hn hk
  try replace hS := St.nm (M' := [.row _ _ _ _ _, .blk _ _ [_, _, _, _, _, _, _, _, _, _, _, _, _, _, _, _], .vw _ _]) hS rfl
  refine hK _ _ ?_; clear hK K
  refine wl_v (x_assign (tmS rfl rfl)) ?_
  refine wl_nil ?_
  refine then_n (hK11 _ _ ?_); clear hK11 K11
  refine wp_seq_k ?_; intro K12 hK12
  refine wlit ?_
  refine wl_v (x_move (tmS rfl rfl)) ?_
  refine wl_v (x_fa 9 Try.underlying64 rfl rfl ts_26 (tmP rfl rfl)) ?_
  refine wl_v (x_loadA (cs := [_, _, _]) Try.underlying26 rfl ts_26 (tmP rfl rfl) (rangeB hS.ok 1 rfl rfl)) ?_
  refine wl_e rfl ?_; intro K hK
  refine ow_call Try.func50 rfl rfl (evs_cons (tmA rfl rfl) <| evs_nil) (ad_bytes_c _ _ hls) ?_
  rintro e w ⟨A', n', c', hn', rfl, hn, hk⟩
  refine ⟨_, rfl, ?_⟩
  obtain rfl : n' = 4 := hn'
  replace hS := ((hS.add hk hn).freeze 0 rfl).pick [1, 0, 2, 3] rfl rfl --ents rowb,va,g0_0,vo
  clear hn hk
  try replace hS := St.nm (M' := [.row _ _ _ _ _, .vw _ _, .blk _ _ [_, _, _, _, _, _, _, _, _, _, _, _, _, _, _, _], .vw _ _]) hS rfl
  refine hK _ _ ?_; clear hK K
  refine wl_e rfl ?_; intro K hK
  refine ow_appendV hS 0 rfl (viewV hS.ok 1 rfl) Try.underlying22 tz_5 rfl (tmS rfl rfl) (tmS rfl rfl) (by first | exact u8v_one _ | (intro u hu; simp at hu; first | (rcases hu with rfl | rfl <;> rfl) | (obtain ⟨_, _, rfl⟩ := hu; rfl))) ⟨by decide, by first | rfl | (simp; done) | (simp; omega)⟩ (by simp only [maxLen]; omega) (by omega) ?_; clear hS; intro g11_4 cg11_4 w hAg11_4 hCg11_4 hS
  refine hK _ _ ?_; clear hK K
  refine wl_v (x_assign (tmS rfl rfl)) ?_
  refine wl_nil ?_
  rw [← List.map_append] at hS
  replace hS := hS.pick [0, 2, 3] rfl rfl
  try replace hS := St.nm (M' := [.row _ _ _ _ _, .blk _ _ [_, _, _, _, _, _, _, _, _, _, _, _, _, _, _, _], .vw _ _]) hS rfl
  refine then_n (hK12 _ _ ?_); clear hK12 K12
  refine wp_seq_k ?_; intro K13 hK13
  refine wlit ?_
  refine wl_v (x_move (tmS rfl rfl)) ?_
  refine wl_v (x_fa 12 Try.underlying64 rfl rfl ts_26 (tmP rfl rfl)) ?_
  refine wl_v (x_loadA (cs := [_, _, _]) Try.underlying26 rfl ts_26 (tmP rfl rfl) (rangeB hS.ok 1 rfl rfl)) ?_
  refine wl_e rfl ?_; intro K hK
  refine ow_call Try.func50 rfl rfl (evs_cons (tmA rfl rfl) <| evs_nil) (ad_bytes_c _ _ hld) ?_
  rintro e w ⟨A', n', c', hn', rfl, hn, hk⟩
  refine ⟨_, rfl, ?_⟩
  obtain rfl : n' = 4 := hn'
  replace hS := ((hS.add hk hn).freeze 0 rfl).pick [1, 0, 2, 3] rfl rfl --ents rowb,va,g0_0,vo
  clear hn hk
  try replace hS := St.nm (M' := [.row _ _ _ _ _, .vw _ _, .blk _ _ [_, _, _, _, _, _, _, _, _, _, _, _, _, _, _, _], .vw _ _]) hS rfl
  refine hK _ _ ?_; clear hK K
  refine wl_e rfl ?_; intro K hK
  refine ow_appendV hS 0 rfl (viewV hS.ok 1 rfl) Try.underlying22 tz_5 rfl (tmS rfl rfl) (tmS rfl rfl) (by first | exact u8v_one _ | (intro u hu; simp at hu; first | (rcases hu with rfl | rfl <;> rfl) | (obtain ⟨_, _, rfl⟩ := hu; rfl))) ⟨by decide, by first | rfl | (simp; done) | (simp; omega)⟩ (by simp only [maxLen]; omega) (by omega) ?_; clear hS; intro g12_4 cg12_4 w hAg12_4 hCg12_4 hS
  refine hK _ _ ?_; clear hK K
  refine wl_v (x_assign (tmS rfl rfl)) ?_
  refine wl_nil ?_
  rw [← List.map_append] at hS
  replace hS := hS.pick [0, 2, 3] rfl rfl
  try replace hS := St.nm (M' := [.row _ _ _ _ _, .blk _ _ [_, _, _, _, _, _, _, _, _, _, _, _, _, _, _, _], .vw _ _]) hS rfl
  refine then_n (hK13 _ _ ?_); clear hK13 K13
  refine wp_seq_k ?_; intro K14 hK14
  refine wlit ?_
  refine wl_v (x_move (tmS rfl rfl)) ?_
  refine wl_v (x_fa 15 Try.underlying64 rfl rfl ts_22 (tmP rfl rfl)) ?_
  refine wl_v (x_load Try.underlying22 rfl (tmP rfl rfl) (cellB hS.ok 1 rfl rfl)) ?_
  refine wl_e rfl ?_; intro K hK
  refine ow_appendV hS 0 rfl (viewV hS.ok 2 rfl) Try.underlying22 tz_5 rfl (tmS rfl rfl) (tmS rfl rfl) (by first | exact u8v_one _ | (intro u hu; simp at hu; first | (rcases hu with rfl | rfl <;> rfl) | (obtain ⟨_, _, rfl⟩ := hu; rfl))) ⟨by decide, by first | rfl | (simp; done) | (simp; omega)⟩ (by simp only [maxLen]; omega) (by omega) ?_; clear hS; intro g13_3 cg13_3 w hAg13_3 hCg13_3 hS
  refine hK _ _ ?_; clear hK K
  refine wl_v (x_assign (tmS rfl rfl)) ?_
  refine wl_nil ?_
  rw [← List.map_append] at hS
  refine then_n (hK14 _ _ ?_); clear hK14 K14
  refine wp_seq_k ?_; intro K15 hK15
  refine wlit ?_
  refine wl_v (x_move (tmS rfl rfl)) ?_
  refine wl_v (x_move (tmS rfl rfl)) ?_
  refine wl_e rfl ?_; intro K hK
  refine ow_build hS Try.underlying126 tz_22 (bc_take (tmS rfl rfl) <| bc_nil) rfl rfl (by kernel_rfl) ?_
  clear hS; intro g14_2 w hg14_2 hS
  refine hK _ _ ?_; clear hK K
  refine wl_e rfl ?_; intro K hK
  refine ow_call Try.func52 rfl rfl (evs_cons (tmS rfl rfl) <| evs_nil) (sum_of_c 1 _ 1 [(g13_3, hd4B tos len id (flN off stay more) ttl proto 0 sl dl o, cg13_3)] _ (by have h := viewB hS.ok 0 rfl; rw [show 0 + 1 + 1 + 2 + 2 + 2 + 1 + 1 + 2 + 4 + 4 + o.length = (hd4B tos len id (flN off stay more) ttl proto 0 sl dl o).length from hlen.symm] at h; exact h) (seen_one (viewR hS.ok 1 rfl)) (brows_cons hby brows_nil) rfl (by omega) (by rw [joined_one]; omega)) ?_
  rintro e w ⟨rfl, hk⟩
  refine ⟨_, rfl, ?_⟩
  rw [rsum_one, hlen]
  replace hS := hS.kept hk
  clear hk
  refine hK _ _ ?_; clear hK K
  refine wl_v (x_convN Try.underlying27 Try.underlying24 (tmI rfl rfl) (fit_u64 (by omega))) ?_
  refine wl_e rfl ?_; intro K hK
  refine ow_call Try.func51 rfl rfl (evs_cons (tmS rfl rfl) <| evs_cons (ev_cN 10) <| evs_cons (tmI rfl rfl) <| evs_cons (ev_cN 2) <| evs_nil) (set_c _ _ _ (hd4B tos len id (flN off stay more) ttl proto 0 sl dl o) 10 _ 2 _ (viewR hS.ok 1 rfl) hlen (by omega) (by omega) (by omega) (by omega) (by omega)) ?_
  rintro e w ⟨g3, rfl, hn, hk⟩
  refine ⟨_, rfl, ?_⟩
  replace hS := hS.add hk hn -- +rowz
  clear hn hk
  refine hK _ _ ?_; clear hK K
  refine wl_v (x_move (tmT rfl rfl)) ?_
  refine wl_v (x_ext (tmT rfl rfl) rfl) ?_
  refine wl_v (x_ext (tmT rfl rfl) rfl) ?_
  refine wl_v (x_assign (tmS rfl rfl)) ?_
  refine wl_nil ?_
  refine then_n (hK15 _ _ ?_); clear hK15 K15
  refine wp_seq_k ?_; intro K16 hK16
  refine wlit ?_
  refine wl_v (x_move (tmS rfl rfl)) ?_
  refine wl_v (x_assign (tmS rfl rfl)) ?_
  refine wl_nil ?_
  refine then_n (hK16 _ _ ?_); clear hK16 K16
  refine wp_ret ?_
  refine ret1 rfl (.tmp rfl (show _ = Value.slice _ _ _ from rfl)) ?_
  have e : hd4C tos len id (flN off stay more) ttl proto sl dl o = 65535 - foldN (psum (hd4B tos len id (flN off stay more) ttl proto 0 sl dl o) (20 + o.length)) := rfl
  rw [← e, hsum] at hS
  exact ⟨_, _, _, by omega, rfl, hS.new 0 rfl rfl, hS.kp⟩

set_option maxRecDepth 100000 in
set_option maxHeartbeats 8000000 in
theorem ip4_packet_c (tos : Nat) (len : Int) (id : Nat) (stay more : Bool) (off ttl proto sum sl dl : Nat) (O : Option Addr) (c : Nat) (o : List Nat) (L : Option Addr) (cl : Nat) (x : List Nat) (w0 : World) (h1 : View w0 w0.heap.size O (o.map u8v)) (hob : Bytes o) (h2 : View w0 w0.heap.size L (x.map u8v))
    (q1 : tos < 256) (q3 : id < 65536) (q7 : ttl < 256) (q8 : proto < 256) (hr : hdRight ((20 + o.length + x.length : Nat) : Int) (off : Int) ⟨false, 0, sl⟩ ⟨false, 0, dl⟩ o.length) :
    Calls Try.prog 11 #[.agg (hdV tos len id stay more (off : Int) ttl proto sum ⟨false, 0, sl⟩ ⟨false, 0, dl⟩ O o.length c).toArray, .slice L x.length cl] w0 fun e w' => ∃ A' n c', n = 20 + o.length + x.length ∧ e = .returned (.tuple #[.slice A' n c', .int .i64 0]) ∧ New w0 w' (.row (.slice A' n c') 5 1 n ((hd4B tos (20 + o.length + x.length) id (flN off stay more) ttl proto (hd4C tos (20 + o.length + x.length) id (flN off stay more) ttl proto sl dl o) sl dl o ++ x).map u8v)) ∧ Kp [] w0 w' := by
  have hS := ((St.sv w0).vcons rfl h1).vcons rfl h2
  have hr' := hr
  obtain ⟨r1, r2, r3, r4, r5, r6, _, _⟩ := hr'
  refine ent (n := 22) Try.func11 rfl rfl ?_
  refine wp_seq_k ?_; intro K1 hK1
  refine wlit ?_
  refine wl_e rfl ?_; intro K hK
  refine ow_box hS (tmA rfl rfl) rfl ?_
  clear hS; intro g0_0 w hg0_0 hS
  refine hK _ _ ?_; clear hK K
  refine wl_v (x_assign ev_c) ?_
  refine wl_v (x_assign (ev_cN 0)) ?_
  refine wl_nil ?_
  refine then_n (hK1 _ _ ?_); clear hK1 K1
  refine wp_seq_k ?_; intro K2 hK2
  refine wlit ?_
  refine wl_v (x_loadA (cs := [_, _, _, _, _, _, _, _, _, _, _, _, _, _, _, _]) Try.underlying64 rfl ts_64 (tmP rfl rfl) (rangeB hS.ok 0 rfl rfl)) ?_
  refine wl_e rfl ?_; intro K hK
  refine ow_call Try.func26 rfl rfl (evs_cons (tmA rfl rfl) <| evs_nil) (ip4_size_c _ _ _ _ _ _ _ _ _ _ _ _ _ _ _ (by omega)) ?_
  rintro e w ⟨rfl, hk⟩
  refine ⟨_, rfl, ?_⟩
  replace hS := hS.kept hk
  clear hk
  refine hK _ _ ?_; clear hK K
  refine wl_v (x_move (tmS rfl rfl)) ?_
  refine wl_v (x_len Try.underlying22 (tmS rfl rfl)) ?_
  refine wl_v (x_addN (tmI rfl rfl) (tmI rfl rfl) (fit_i64 (by omega))) ?_
  refine wl_v (x_fa 1 Try.underlying64 rfl rfl ts_3 (tmP rfl rfl)) ?_
  refine wl_e rfl ?_; intro K hK
  refine ow_store hS 0 rfl ts_3 (tmP rfl rfl) (tmI rfl rfl) rfl rfl ?_
  clear hS; intro w hS
  try replace hS := St.nm (M' := [.blk _ _ [_, _, _, _, _, _, _, _, _, _, _, _, _, _, _, _], .vw _ _, .vw _ _]) hS rfl
  refine hK _ _ ?_; clear hK K
  refine wl_nil ?_
  refine then_n (hK2 _ _ ?_); clear hK2 K2
  refine wp_seq_k ?_; intro K3 hK3
  refine wp_seq_k ?_; intro K4 hK4
  refine wlit ?_
  refine wl_v (x_fa 1 Try.underlying64 rfl rfl ts_3 (tmP rfl rfl)) ?_
  refine wl_v (x_load Try.underlying3 rfl (tmP rfl rfl) (cellB hS.ok 0 rfl rfl)) ?_
  refine wl_v (x_gtr (tmI rfl rfl) (ev_cN 65535)) ?_
  refine wl_nil ?_
  refine then_n (hK4 _ _ ?_); clear hK4 K4
  refine cnd (tm rfl) (fun hc0 => ?_) (fun hc0 => ?_)
  · exfalso
    simp only [nrm] at hc0
    omega
  try simp only [nrm] at hc0
  refine wp_skip ?_
  refine then_n (hK3 _ _ ?_); clear hK3 K3
  refine wp_seq_k ?_; intro K5 hK5
  refine wp_seq_k ?_; intro K6 hK6
  refine wlit ?_
  refine wl_v (x_loadA (cs := [_, _, _, _, _, _, _, _, _, _, _, _, _, _, _, _]) Try.underlying64 rfl ts_64 (tmP rfl rfl) (rangeB hS.ok 0 rfl rfl)) ?_
  refine wl_e rfl ?_; intro K hK
  refine ow_call Try.func27 rfl rfl (evs_cons (tmA rfl rfl) <| evs_nil) (ip4_right_c tos ((20 + o.length + x.length : Nat) : Int) id stay more off ttl proto sum ⟨false, 0, sl⟩ ⟨false, 0, dl⟩ O o.length c _ (by omega)) ?_
  rintro e w ⟨rfl, hk⟩
  refine ⟨_, rfl, ?_⟩
  replace hS := hS.kept hk
  clear hk
  refine hK _ _ ?_; clear hK K
  refine wl_v (x_not (tmB rfl rfl)) ?_
  refine wl_nil ?_
  refine then_n (hK6 _ _ ?_); clear hK6 K6
  refine cnd (tm rfl) (fun hc1 => ?_) (fun hc1 => ?_)
  · exfalso
    simp at hc1
    exact hc1 hr
  try simp only [nrm] at hc1
  refine wp_skip ?_
  refine then_n (hK5 _ _ ?_); clear hK5 K5
  refine wp_seq_k ?_; intro K7 hK7
  refine wlit ?_
  refine wl_v (x_loadA (cs := [_, _, _, _, _, _, _, _, _, _, _, _, _, _, _, _]) Try.underlying64 rfl ts_64 (tmP rfl rfl) (rangeB hS.ok 0 rfl rfl)) ?_
  refine wl_e rfl ?_; intro K hK
  refine ow_call Try.func28 rfl rfl (evs_cons (tmA rfl rfl) <| evs_nil) (ip4_bytes_c tos (20 + o.length + x.length) id stay more off ttl proto sum sl dl O c o _ (viewV hS.ok 2 rfl) hob q1 q3 q7 q8 hr) ?_
  rintro e w ⟨A1, n1, c1, hn1, rfl, hn, hk⟩
  refine ⟨_, rfl, ?_⟩
  replace hS := hS.add hk hn -- +rowb
  clear hn hk
  refine hK _ _ ?_; clear hK K
  refine wl_v (x_move (tmS rfl rfl)) ?_
  refine wl_e rfl ?_; intro K hK
  refine ow_appendV hS 0 rfl (viewV hS.ok 2 rfl) Try.underlying22 tz_5 rfl (tmS rfl rfl) (tmS rfl rfl) (by first | exact u8v_one _ | (intro u hu; simp at hu; first | (rcases hu with rfl | rfl <;> rfl) | (obtain ⟨_, _, rfl⟩ := hu; rfl))) ⟨by decide, by first | rfl | (simp; done) | (simp; omega)⟩ (by simp only [maxLen]; omega) (by omega) ?_; clear hS; intro g6_3 cg6_3 w hAg6_3 hCg6_3 hS
  refine hK _ _ ?_; clear hK K
  refine wl_v (x_assign (tmS rfl rfl)) ?_
  refine wl_v (x_assign (ev_cN 0)) ?_
  refine wl_nil ?_
  rw [← List.map_append] at hS
  refine then_n (hK7 _ _ ?_); clear hK7 K7
  refine wp_ret ?_
  refine ret2 rfl (.tmp rfl (show _ = Value.slice _ _ _ from rfl)) (.tmp rfl (show _ = Value.int _ _ from rfl)) ?_
  exact ⟨_, _, _, by omega, rfl, hS.new 0 rfl rfl, hS.kp⟩

end Go.Proofs.Ytcobjneobdihkaa
/- ip4: the reference's Bytes and Packet, by contract. Conditions: none but bounds. -/
namespace Go.Proofs.Ytcobjneobdihkaa
open Go.RowKit
end Go.Proofs.Ytcobjneobdihkaa
/- tcp: Parse and the reference's Parse, Same, the law's Of and To, by contract. Conditions: none but bounds. -/
namespace Go.Proofs.Ytcobjneobdihkaa
open Go.RowKit

def segV (sp dp seq ack fl win sum urg : Nat) (O : Option Addr) (m c : Nat) (L : Option Addr) (k d : Nat) : List Value :=
  [.int .u16 (sp : Int), .int .u16 (dp : Int), .int .u32 (seq : Int), .int .u32 (ack : Int), .int .u8 (fl : Int), .int .u16 (win : Int), .int .u16 (sum : Int), .int .u16 (urg : Int), .slice O m c, .slice L k d]

set_option maxRecDepth 100000 in
set_option maxHeartbeats 4000000 in
theorem tcp_parse_c (n : Nat) (A : Option Addr) (c : Nat) (l : List Nat) (w0 : World) (hv : View w0 w0.heap.size A (l.map u8v)) (hl : l.length = n) (hb : Bytes l) (hn4 : n ≤ 1000000)
    (sz : Nat) (hsz : sz = nth l 12 / 16 * 4) (h1 : 20 ≤ sz) (h2 : nth l 12 % 16 = 0) (h3 : sz ≤ n) :
    Calls Try.prog 33 #[.slice A n c] w0 fun e w' => ∃ O L, e = .returned (.tuple #[.agg (segV (getN l 0 2) (getN l 2 2) (getN l 4 4) (getN l 8 4) (getN l 13 1) (getN l 14 2) (getN l 16 2) (getN l 18 2) O (sz - 20) (sz - 20) L (n - sz) (n - sz)).toArray, .int .i64 0]) ∧
      NewV w0 w' O (((l.drop 20).take (sz - 20)).map u8v) ∧ NewV w0 w' L ((l.drop sz).map u8v) ∧ Kp [] w0 w' := by
  have hS := (St.sv w0).vcons rfl hv
  have hq : getN l (0 + 2 + 2 + 4 + 4) 1 = nth l 12 := getN_one (by omega)
  have hqb := nth_lt hb 12
  have hand : getN l (0 + 2 + 2 + 4 + 4) 1 &&& 15 = getN l (0 + 2 + 2 + 4 + 4) 1 % 16 := Nat.and_two_pow_sub_one_eq_mod _ 4
  have hand2 : getN l 12 1 &&& 15 = nth l 12 % 16 := by rw [← hq]; exact hand
  have hz : getN l (0 + 2 + 2 + 4 + 4) 1 / 2 ^ 4 * 4 = sz := by rw [hq, hsz]
  refine ent (n := 63) Try.func33 rfl rfl ?_
  refine wp_seq_k ?_; intro K1 hK1
  refine wlit ?_
  refine wl_e rfl ?_; intro K hK
  refine ow_alloc hS tz_49 rfl ?_
  clear hS; intro g0_0 w hg0_0 hS
  refine hK _ _ ?_; clear hK K
  refine wl_v (x_assign (ev_cN 0)) ?_
  refine wl_nil ?_
  refine then_n (hK1 _ _ ?_); clear hK1 K1
  refine wp_seq_k ?_; intro K2 hK2
  refine wp_seq_k ?_; intro K3 hK3
  refine wlit ?_
  refine wl_v (x_move (tmS rfl rfl)) ?_
  refine wl_v (x_len Try.underlying22 (tmS rfl rfl)) ?_
  refine wl_v (x_lss (tmI rfl rfl) (ev_cN 20)) ?_
  refine wl_nil ?_
  refine then_n (hK3 _ _ ?_); clear hK3 K3
  refine cnd (tm rfl) (fun hc0 => ?_) (fun hc0 => ?_)
  · exfalso
    simp at hc0
    omega
  try simp only [nrm] at hc0
  refine wp_skip ?_
  refine then_n (hK2 _ _ ?_); clear hK2 K2
  refine wp_seq_k ?_; intro K4 hK4
  refine wlit ?_
  refine wl_v (x_move (tmS rfl rfl)) ?_
  refine wl_e rfl ?_; intro K hK
  refine ow_call Try.func14 rfl rfl (evs_cons (tmS rfl rfl) <| evs_nil) (read_c n A c l _ (viewV hS.ok 1 rfl) hl hn4) ?_
  rintro e w ⟨gr, A0, rfl, hS2⟩
  refine ⟨_, rfl, ?_⟩
  replace hS := hS.adds hS2 rfl -- +gr,rowb
  clear hS2
  have hA : Off A0 0 n A0 := off_zero
  have hcp : n - 0 ≤ n := by omega
  refine hK _ _ ?_; clear hK K
  refine wl_v (x_assign (tmP rfl rfl)) ?_
  refine wl_nil ?_
  refine then_n (hK4 _ _ ?_); clear hK4 K4
  refine wp_seq_k ?_; intro K5 hK5
  refine wlit ?_
  refine wl_v (x_move (tmP rfl rfl)) ?_
  refine wl_e rfl ?_; intro K hK
  refine ow_call Try.func15 rfl rfl (evs_cons (tmP rfl rfl) <| evs_nil) (word_c gr A0 _ _ n _ l false _ _ (hS.enter [0] [1] rfl rfl) hA (by omega) hcp hl hb) ?_
  rintro e w ⟨A1, c1, rfl, hS2, hA, hcp⟩
  refine ⟨_, rfl, ?_⟩
  replace hS := hS.turn 0 rfl rfl hS2 rfl
  clear hS2
  try replace hS := St.nm (M' := [_, .row _ _ _ _ _, .blk _ _ [_, _, _, _, _, _, _, _, _, _], .vw _ _]) hS rfl
  refine hK _ _ ?_; clear hK K
  refine wl_v (x_move (tmP rfl rfl)) ?_
  refine wl_e rfl ?_; intro K hK
  refine ow_call Try.func15 rfl rfl (evs_cons (tmP rfl rfl) <| evs_nil) (word_c gr A0 _ _ n _ l false _ _ (hS.enter [0] [1] rfl rfl) hA (by omega) hcp hl hb) ?_
  rintro e w ⟨A1, c1, rfl, hS2, hA, hcp⟩
  refine ⟨_, rfl, ?_⟩
  replace hS := hS.turn 0 rfl rfl hS2 rfl
  clear hS2
  try replace hS := St.nm (M' := [_, .row _ _ _ _ _, .blk _ _ [_, _, _, _, _, _, _, _, _, _], .vw _ _]) hS rfl
  refine hK _ _ ?_; clear hK K
  refine wl_v (x_move (tmP rfl rfl)) ?_
  refine wl_e rfl ?_; intro K hK
  refine ow_call Try.func25 rfl rfl (evs_cons (tmP rfl rfl) <| evs_nil) (long_c gr A0 _ _ n _ l false _ _ (hS.enter [0] [1] rfl rfl) hA (by omega) hcp hl hb) ?_
  rintro e w ⟨A1, c1, rfl, hS2, hA, hcp⟩
  refine ⟨_, rfl, ?_⟩
  replace hS := hS.turn 0 rfl rfl hS2 rfl
  clear hS2
  try replace hS := St.nm (M' := [_, .row _ _ _ _ _, .blk _ _ [_, _, _, _, _, _, _, _, _, _], .vw _ _]) hS rfl
  refine hK _ _ ?_; clear hK K
  refine wl_v (x_move (tmP rfl rfl)) ?_
  refine wl_e rfl ?_; intro K hK
  refine ow_call Try.func25 rfl rfl (evs_cons (tmP rfl rfl) <| evs_nil) (long_c gr A0 _ _ n _ l false _ _ (hS.enter [0] [1] rfl rfl) hA (by omega) hcp hl hb) ?_
  rintro e w ⟨A1, c1, rfl, hS2, hA, hcp⟩
  refine ⟨_, rfl, ?_⟩
  replace hS := hS.turn 0 rfl rfl hS2 rfl
  clear hS2
  try replace hS := St.nm (M' := [_, .row _ _ _ _ _, .blk _ _ [_, _, _, _, _, _, _, _, _, _], .vw _ _]) hS rfl
  refine hK _ _ ?_; clear hK K
  refine wl_v (x_build (bc_take (tmI rfl rfl) <| bc_take (tmI rfl rfl) <| bc_take (tmI rfl rfl) <| bc_take (tmI rfl rfl) <| bc_skip (.int .u8 0) <| bc_skip (.int .u16 0) <| bc_skip (.int .u16 0) <| bc_skip (.int .u16 0) <| bc_skip (.slice none 0 0) <| bc_skip (.slice none 0 0) <| bc_nil) (by kernel_rfl)) ?_
  refine wl_e rfl ?_; intro K hK
  refine ow_alloc hS tz_49 rfl ?_
  clear hS; intro g4_9 w hg4_9 hS
  refine hK _ _ ?_; clear hK K
  refine wl_e rfl ?_; intro K hK
  refine ow_storeA hS 0 rfl ts_49 (tmP rfl rfl) (tmA rfl rfl) rfl rfl rfl ?_
  clear hS; intro w hS
  try replace hS := St.nm (M' := [.blk _ _ [_, _, _, _, _, _, _, _, _, _], _, .row _ _ _ _ _, .blk _ _ [_, _, _, _, _, _, _, _, _, _], .vw _ _]) hS rfl
  refine hK _ _ ?_; clear hK K
  refine wl_nil ?_
  refine then_n (hK5 _ _ ?_); clear hK5 K5
  refine wp_seq_k ?_; intro K6 hK6
  refine wlit ?_
  refine wl_v (x_move (tmP rfl rfl)) ?_
  refine wl_e rfl ?_; intro K hK
  refine ow_call Try.func30 rfl rfl (evs_cons (tmP rfl rfl) <| evs_nil) (byte_c gr A0 _ _ n _ l false _ _ (hS.enter [1] [2] rfl rfl) hA (by omega) hcp hl hb) ?_
  rintro e w ⟨A1, c1, rfl, hS2, hA, hcp⟩
  refine ⟨_, rfl, ?_⟩
  replace hS := hS.turn 1 rfl rfl hS2 rfl
  clear hS2
  try replace hS := St.nm (M' := [.blk _ _ [_, _, _, _, _, _, _, _, _, _], _, .row _ _ _ _ _, .blk _ _ [_, _, _, _, _, _, _, _, _, _], .vw _ _]) hS rfl
  refine hK _ _ ?_; clear hK K
  refine wl_v (x_assign (tmI rfl rfl)) ?_
  refine wl_nil ?_
  refine then_n (hK6 _ _ ?_); clear hK6 K6
  refine wp_seq_k ?_; intro K7 hK7
  refine wlit ?_
  refine wl_v (x_move (tmI rfl rfl)) ?_
  refine wl_v (x_shrN (tmI rfl rfl) (ev_cN 4) (fit_u8 (by omega))) ?_
  refine wl_v (x_convN Try.underlying5 Try.underlying3 (tmI rfl rfl) (fit_i64 (by omega))) ?_
  refine wl_v (x_mulN (tmI rfl rfl) (ev_cN 4) (fit_i64 (by omega))) ?_
  refine wl_v (x_assign (tmI rfl (congrArg (fun q : Nat => Value.int .i64 (q : Int)) hz))) ?_
  refine wl_nil ?_
  refine then_n (hK7 _ _ ?_); clear hK7 K7
  refine wp_seq_k ?_; intro K8 hK8
  refine wp_seq_k ?_; intro K9 hK9
  refine wlit ?_
  refine wl_v (x_move (tmI rfl rfl)) ?_
  refine wl_v (x_lss (tmI rfl rfl) (ev_cN 20)) ?_
  refine wl_v (x_move (tmB rfl rfl)) ?_
  refine gs_wl (tm (t := 31) rfl) (fun hg7_2 => ?_) (fun hg7_2 => ?_)
  · have hg7_2' := hg7_2; (try simp only [nrm] at hg7_2'); try (exfalso; first | with_reducible exact absurd hg7_2 Bool.false_ne_true | with_reducible exact absurd hg7_2.symm Bool.false_ne_true | omega | (simp at hg7_2; done))
  have hg7_2' := hg7_2; (try simp only [nrm] at hg7_2')
  refine wl_gv (want_y rfl rfl rfl rfl (by rw [hg7_2]; rfl)) (x_move (tmI rfl rfl)) ?_
  refine wl_gv (want_y rfl rfl rfl rfl (by rw [hg7_2]; rfl)) (x_andN (tmI rfl rfl) (ev_cN 15) (fit_u8 (by omega)) (fit_u8 (by omega))) ?_
  refine wl_gv (want_y rfl rfl rfl rfl (by rw [hg7_2]; rfl)) (x_neq (tmI rfl rfl) (ev_cN 0)) ?_
  refine wl_v (x_pickF (tmB rfl rfl) hg7_2 (tmB rfl rfl)) ?_
  refine wl_nil ?_
  refine then_n (hK9 _ _ ?_); clear hK9 K9
  refine cnd (tm rfl) (fun hc1 => ?_) (fun hc1 => ?_)
  · exfalso
    simp at hc1
    omega
  try simp only [nrm] at hc1
  refine wp_skip ?_
  refine then_n (hK8 _ _ ?_); clear hK8 K8
  refine wp_seq_k ?_; intro K12 hK12
  refine wp_seq_k ?_; intro K13 hK13
  refine wlit ?_
  refine wl_v (x_move (tmS rfl rfl)) ?_
  refine wl_v (x_len Try.underlying22 (tmS rfl rfl)) ?_
  refine wl_v (x_move (tmI rfl rfl)) ?_
  refine wl_v (x_lss (tmI rfl rfl) (tmI rfl rfl)) ?_
  refine wl_nil ?_
  refine then_n (hK13 _ _ ?_); clear hK13 K13
  refine cnd (tm rfl) (fun hc2 => ?_) (fun hc2 => ?_)
  · exfalso
    simp at hc2
    omega
  try simp only [nrm] at hc2
  refine wp_skip ?_
  refine then_n (hK12 _ _ ?_); clear hK12 K12
  refine wp_seq_k ?_; intro K14 hK14
  refine wlit ?_
  refine wl_v (x_move (tmP rfl rfl)) ?_
  refine wl_e rfl ?_; intro K hK
  refine ow_call Try.func30 rfl rfl (evs_cons (tmP rfl rfl) <| evs_nil) (byte_c gr A0 _ _ n _ l false _ _ (hS.enter [1] [2] rfl rfl) hA (by omega) hcp hl hb) ?_
  rintro e w ⟨A1, c1, rfl, hS2, hA, hcp⟩
  refine ⟨_, rfl, ?_⟩
  replace hS := hS.turn 1 rfl rfl hS2 rfl
  clear hS2
  try replace hS := St.nm (M' := [.blk _ _ [_, _, _, _, _, _, _, _, _, _], _, .row _ _ _ _ _, .blk _ _ [_, _, _, _, _, _, _, _, _, _], .vw _ _]) hS rfl
  refine hK _ _ ?_; clear hK K
  refine wl_v (x_move (tmP rfl rfl)) ?_
  refine wl_e rfl ?_; intro K hK
  refine ow_call Try.func15 rfl rfl (evs_cons (tmP rfl rfl) <| evs_nil) (word_c gr A0 _ _ n _ l false _ _ (hS.enter [1] [2] rfl rfl) hA (by omega) hcp hl hb) ?_
  rintro e w ⟨A1, c1, rfl, hS2, hA, hcp⟩
  refine ⟨_, rfl, ?_⟩
  replace hS := hS.turn 1 rfl rfl hS2 rfl
  clear hS2
  try replace hS := St.nm (M' := [.blk _ _ [_, _, _, _, _, _, _, _, _, _], _, .row _ _ _ _ _, .blk _ _ [_, _, _, _, _, _, _, _, _, _], .vw _ _]) hS rfl
  refine hK _ _ ?_; clear hK K
  refine wl_v (x_move (tmP rfl rfl)) ?_
  refine wl_e rfl ?_; intro K hK
  refine ow_call Try.func15 rfl rfl (evs_cons (tmP rfl rfl) <| evs_nil) (word_c gr A0 _ _ n _ l false _ _ (hS.enter [1] [2] rfl rfl) hA (by omega) hcp hl hb) ?_
  rintro e w ⟨A1, c1, rfl, hS2, hA, hcp⟩
  refine ⟨_, rfl, ?_⟩
  replace hS := hS.turn 1 rfl rfl hS2 rfl
  clear hS2
  try replace hS := St.nm (M' := [.blk _ _ [_, _, _, _, _, _, _, _, _, _], _, .row _ _ _ _ _, .blk _ _ [_, _, _, _, _, _, _, _, _, _], .vw _ _]) hS rfl
  refine hK _ _ ?_; clear hK K
  refine wl_v (x_move (tmP rfl rfl)) ?_
  refine wl_e rfl ?_; intro K hK
  refine ow_call Try.func15 rfl rfl (evs_cons (tmP rfl rfl) <| evs_nil) (word_c gr A0 _ _ n _ l false _ _ (hS.enter [1] [2] rfl rfl) hA (by omega) hcp hl hb) ?_
  rintro e w ⟨A1, c1, rfl, hS2, hA, hcp⟩
  refine ⟨_, rfl, ?_⟩
  replace hS := hS.turn 1 rfl rfl hS2 rfl
  clear hS2
  try replace hS := St.nm (M' := [.blk _ _ [_, _, _, _, _, _, _, _, _, _], _, .row _ _ _ _ _, .blk _ _ [_, _, _, _, _, _, _, _, _, _], .vw _ _]) hS rfl
  refine hK _ _ ?_; clear hK K
  refine wl_v (x_fa 4 Try.underlying49 rfl rfl ts_5 (tmP rfl rfl)) ?_
  refine wl_e rfl ?_; intro K hK
  refine ow_store hS 0 rfl ts_5 (tmP rfl rfl) (tmI rfl rfl) rfl rfl ?_
  clear hS; intro w hS
  try replace hS := St.nm (M' := [.blk _ _ [_, _, _, _, _, _, _, _, _, _], _, .row _ _ _ _ _, .blk _ _ [_, _, _, _, _, _, _, _, _, _], .vw _ _]) hS rfl
  refine hK _ _ ?_; clear hK K
  refine wl_v (x_fa 5 Try.underlying49 rfl rfl ts_27 (tmP rfl rfl)) ?_
  refine wl_e rfl ?_; intro K hK
  refine ow_store hS 0 rfl ts_27 (tmP rfl rfl) (tmI rfl rfl) rfl rfl ?_
  clear hS; intro w hS
  try replace hS := St.nm (M' := [.blk _ _ [_, _, _, _, _, _, _, _, _, _], _, .row _ _ _ _ _, .blk _ _ [_, _, _, _, _, _, _, _, _, _], .vw _ _]) hS rfl
  refine hK _ _ ?_; clear hK K
  refine wl_v (x_fa 6 Try.underlying49 rfl rfl ts_27 (tmP rfl rfl)) ?_
  refine wl_e rfl ?_; intro K hK
  refine ow_store hS 0 rfl ts_27 (tmP rfl rfl) (tmI rfl rfl) rfl rfl ?_
  clear hS; intro w hS
  try replace hS := St.nm (M' := [.blk _ _ [_, _, _, _, _, _, _, _, _, _], _, .row _ _ _ _ _, .blk _ _ [_, _, _, _, _, _, _, _, _, _], .vw _ _]) hS rfl
  refine hK _ _ ?_; clear hK K
  refine wl_v (x_fa 7 Try.underlying49 rfl rfl ts_27 (tmP rfl rfl)) ?_
  refine wl_e rfl ?_; intro K hK
  refine ow_store hS 0 rfl ts_27 (tmP rfl rfl) (tmI rfl rfl) rfl rfl ?_
  clear hS; intro w hS
  try replace hS := St.nm (M' := [.blk _ _ [_, _, _, _, _, _, _, _, _, _], _, .row _ _ _ _ _, .blk _ _ [_, _, _, _, _, _, _, _, _, _], .vw _ _]) hS rfl
  refine hK _ _ ?_; clear hK K
  refine wl_nil ?_
  refine then_n (hK14 _ _ ?_); clear hK14 K14
  refine wp_seq_k ?_; intro K15 hK15
  refine wlit ?_
  refine wl_v (x_move (tmP rfl rfl)) ?_
  refine wl_v (x_move (tmI rfl rfl)) ?_
  refine wl_v (x_subN (tmI rfl rfl) (ev_cN 20) (fit_i64 (by omega)) (by omega)) ?_
  refine wl_e rfl ?_; intro K hK
  refine ow_call Try.func29 rfl rfl (evs_cons (tmP rfl rfl) <| evs_cons (tmI rfl rfl) <| evs_nil) (bytes_c gr A0 A1 _ (sz - 20) n _ l false _ _ (hS.enter [1] [2] rfl rfl) hA (by omega) hcp) ?_
  rintro e w ⟨A2, c2, rfl, hS2, hA2, hcp2⟩
  refine ⟨_, rfl, ?_⟩
  replace hS := hS.turn 1 rfl rfl hS2 rfl
  clear hS2
  try replace hS := St.nm (M' := [.blk _ _ [_, _, _, _, _, _, _, _, _, _], _, .row _ _ _ _ _, .blk _ _ [_, _, _, _, _, _, _, _, _, _], .vw _ _]) hS rfl
  refine hK _ _ ?_; clear hK K
  refine wl_v (x_fa 8 Try.underlying49 rfl rfl ts_22 (tmP rfl rfl)) ?_
  refine wl_e rfl ?_; intro K hK
  refine ow_store hS 0 rfl ts_22 (tmP rfl rfl) (tmS rfl rfl) rfl rfl ?_
  clear hS; intro w hS
  try replace hS := St.nm (M' := [.blk _ _ [_, _, _, _, _, _, _, _, _, _], _, .row _ _ _ _ _, .blk _ _ [_, _, _, _, _, _, _, _, _, _], .vw _ _]) hS rfl
  refine hK _ _ ?_; clear hK K
  refine wl_nil ?_
  refine then_n (hK15 _ _ ?_); clear hK15 K15
  refine wp_seq_k ?_; intro K16 hK16
  refine wlit ?_
  refine wl_v (x_move (tmP rfl rfl)) ?_
  refine wl_e rfl ?_; intro K hK
  refine ow_call Try.func55 rfl rfl (evs_cons (tmP rfl rfl) <| evs_nil) (rest_c gr A0 A2 _ n _ l false _ _ (hS.enter [1] [2] rfl rfl) hA2 (by omega) hcp2) ?_
  rintro e w ⟨A3, c3, rfl, hS2⟩
  refine ⟨_, rfl, ?_⟩
  replace hS := hS.turn 1 rfl rfl hS2 rfl
  clear hS2
  try replace hS := St.nm (M' := [.blk _ _ [_, _, _, _, _, _, _, _, _, _], _, .row _ _ _ _ _, .blk _ _ [_, _, _, _, _, _, _, _, _, _], .vw _ _]) hS rfl
  refine hK _ _ ?_; clear hK K
  refine wl_v (x_fa 9 Try.underlying49 rfl rfl ts_22 (tmP rfl rfl)) ?_
  refine wl_e rfl ?_; intro K hK
  refine ow_store hS 0 rfl ts_22 (tmP rfl rfl) (tmS rfl rfl) rfl rfl ?_
  clear hS; intro w hS
  try replace hS := St.nm (M' := [.blk _ _ [_, _, _, _, _, _, _, _, _, _], _, .row _ _ _ _ _, .blk _ _ [_, _, _, _, _, _, _, _, _, _], .vw _ _]) hS rfl
  refine hK _ _ ?_; clear hK K
  refine wl_nil ?_
  refine then_n (hK16 _ _ ?_); clear hK16 K16
  refine wp_seq_k ?_; intro K17 hK17
  refine wlit ?_
  refine wl_v (x_loadA (cs := [_, _, _, _, _, _, _, _, _, _]) Try.underlying49 rfl ts_49 (tmP rfl rfl) (rangeB hS.ok 0 rfl rfl)) ?_
  refine wl_e rfl ?_; intro K hK
  refine ow_storeA hS 3 rfl ts_49 (tmP rfl rfl) (tmA rfl rfl) rfl rfl rfl ?_
  clear hS; intro w hS
  try replace hS := St.nm (M' := [.blk _ _ [_, _, _, _, _, _, _, _, _, _], _, .row _ _ _ _ _, .blk _ _ [_, _, _, _, _, _, _, _, _, _], .vw _ _]) hS rfl
  refine hK _ _ ?_; clear hK K
  refine wl_v (x_assign (ev_cN 0)) ?_
  refine wl_nil ?_
  refine then_n (hK17 _ _ ?_); clear hK17 K17
  refine wp_ret ?_
  refine ret2 rfl (.cell rfl rfl (load_rowB (cs := [_, _, _, _, _, _, _, _, _, _]) hS.ok 3 rfl Try.underlying49 rfl ts_49 rfl)) (.tmp rfl (show _ = Value.int _ _ from rfl)) ?_
  have hp : 0 + 2 + 2 + 4 + 4 + 1 + 1 + 2 + 2 + 2 + (sz - 20) = sz := by omega
  refine ⟨A1, A2, by rw [hp]; rfl, NewV.offb (hS.newv 2 rfl) hl hA (sz - 20), ?_, hS.kp⟩
  have h4 := NewV.offb (hS.newv 2 rfl) hl hA2 n
  rw [hp, List.take_of_length_le (by rw [List.length_drop]; omega)] at h4
  exact h4
set_option maxRecDepth 100000 in
set_option maxHeartbeats 4000000 in
theorem tcp_parse_bad (n : Nat) (A : Option Addr) (c : Nat) (l : List Nat) (w0 : World) (hv : View w0 w0.heap.size A (l.map u8v)) (hl : l.length = n) (hb : Bytes l) (hn4 : n ≤ 1000000)
    (sz er : Nat) (hsz : sz = nth l 12 / 16 * 4) (h : (n < 20 ∧ er = 20) ∨ (20 ≤ n ∧ (sz < 20 ∨ nth l 12 % 16 ≠ 0) ∧ er = 21) ∨ (20 ≤ n ∧ 20 ≤ sz ∧ nth l 12 % 16 = 0 ∧ n < sz ∧ er = 20)) :
    Calls Try.prog 33 #[.slice A n c] w0 fun e w' => e = .returned (.tuple #[.agg (segV 0 0 0 0 0 0 0 0 none 0 0 none 0 0).toArray, .int .i64 (er : Int)]) ∧ Kp [] w0 w' := by
  have hS := (St.sv w0).vcons rfl hv
  have hqb := nth_lt hb 12
  by_cases h20 : n < 20
  · skip
    refine ent (n := 63) Try.func33 rfl rfl ?_
    refine wp_seq_k ?_; intro K1 hK1
    refine wlit ?_
    refine wl_e rfl ?_; intro K hK
    refine ow_alloc hS tz_49 rfl ?_
    clear hS; intro g0_0 w hg0_0 hS
    refine hK _ _ ?_; clear hK K
    refine wl_v (x_assign (ev_cN 0)) ?_
    refine wl_nil ?_
    refine then_n (hK1 _ _ ?_); clear hK1 K1
    refine wp_seq_k ?_; intro K2 hK2
    refine wp_seq_k ?_; intro K3 hK3
    refine wlit ?_
    refine wl_v (x_move (tmS rfl rfl)) ?_
    refine wl_v (x_len Try.underlying22 (tmS rfl rfl)) ?_
    refine wl_v (x_lss (tmI rfl rfl) (ev_cN 20)) ?_
    refine wl_nil ?_
    refine then_n (hK3 _ _ ?_); clear hK3 K3
    refine cnds (tm rfl) (fun hc0 => ?_) (fun hc0 => ?_)
    · exfalso
      simp at hc0
      omega
    try simp only [nrm] at hc0
    refine wp_seq_k ?_; intro K4 hK4
    refine wlit ?_
    refine wl_v (x_build (bc_skip (.int .u16 0) <| bc_skip (.int .u16 0) <| bc_skip (.int .u32 0) <| bc_skip (.int .u32 0) <| bc_skip (.int .u8 0) <| bc_skip (.int .u16 0) <| bc_skip (.int .u16 0) <| bc_skip (.int .u16 0) <| bc_skip (.slice none 0 0) <| bc_skip (.slice none 0 0) <| bc_nil) (by kernel_rfl)) ?_
    refine wl_e rfl ?_; intro K hK
    refine ow_storeA hS 0 rfl ts_49 (tmP rfl rfl) (tmA rfl rfl) rfl rfl rfl ?_
    clear hS; intro w hS
    try replace hS := St.nm (M' := [.blk _ _ [_, _, _, _, _, _, _, _, _, _], .vw _ _]) hS rfl
    refine hK _ _ ?_; clear hK K
    refine wl_v (x_assign (ev_cN 20)) ?_
    refine wl_nil ?_
    refine then_n (hK4 _ _ ?_); clear hK4 K4
    refine wp_ret ?_
    refine then_r ?_
    refine ret2 rfl (.cell rfl rfl (load_rowB (cs := [_, _, _, _, _, _, _, _, _, _]) hS.ok 0 rfl Try.underlying49 rfl ts_49 rfl)) (.tmp rfl (show _ = Value.int _ _ from rfl)) ?_
    obtain rfl : er = 20 := by omega
    exact ⟨rfl, hS.kp⟩
  have hq : getN l (0 + 2 + 2 + 4 + 4) 1 = nth l 12 := getN_one (by omega)
  have hand : getN l (0 + 2 + 2 + 4 + 4) 1 &&& 15 = getN l (0 + 2 + 2 + 4 + 4) 1 % 16 := Nat.and_two_pow_sub_one_eq_mod _ 4
  have hand2 : getN l 12 1 &&& 15 = nth l 12 % 16 := by rw [← hq]; exact hand
  have hz : getN l (0 + 2 + 2 + 4 + 4) 1 / 2 ^ 4 * 4 = sz := by rw [hq, hsz]
  refine ent (n := 63) Try.func33 rfl rfl ?_
  refine wp_seq_k ?_; intro K1 hK1
  refine wlit ?_
  refine wl_e rfl ?_; intro K hK
  refine ow_alloc hS tz_49 rfl ?_
  clear hS; intro g0_0 w hg0_0 hS
  refine hK _ _ ?_; clear hK K
  refine wl_v (x_assign (ev_cN 0)) ?_
  refine wl_nil ?_
  refine then_n (hK1 _ _ ?_); clear hK1 K1
  refine wp_seq_k ?_; intro K2 hK2
  refine wp_seq_k ?_; intro K3 hK3
  refine wlit ?_
  refine wl_v (x_move (tmS rfl rfl)) ?_
  refine wl_v (x_len Try.underlying22 (tmS rfl rfl)) ?_
  refine wl_v (x_lss (tmI rfl rfl) (ev_cN 20)) ?_
  refine wl_nil ?_
  refine then_n (hK3 _ _ ?_); clear hK3 K3
  refine cnd (tm rfl) (fun hc0 => ?_) (fun hc0 => ?_)
  · exfalso
    simp at hc0
    omega
  try simp only [nrm] at hc0
  refine wp_skip ?_
  refine then_n (hK2 _ _ ?_); clear hK2 K2
  refine wp_seq_k ?_; intro K4 hK4
  refine wlit ?_
  refine wl_v (x_move (tmS rfl rfl)) ?_
  refine wl_e rfl ?_; intro K hK
  refine ow_call Try.func14 rfl rfl (evs_cons (tmS rfl rfl) <| evs_nil) (read_c n A c l _ (viewV hS.ok 1 rfl) hl hn4) ?_
  rintro e w ⟨gr, A0, rfl, hS2⟩
  refine ⟨_, rfl, ?_⟩
  replace hS := hS.adds hS2 rfl -- +gr,rowb
  clear hS2
  have hA : Off A0 0 n A0 := off_zero
  have hcp : n - 0 ≤ n := by omega
  refine hK _ _ ?_; clear hK K
  refine wl_v (x_assign (tmP rfl rfl)) ?_
  refine wl_nil ?_
  refine then_n (hK4 _ _ ?_); clear hK4 K4
  refine wp_seq_k ?_; intro K5 hK5
  refine wlit ?_
  refine wl_v (x_move (tmP rfl rfl)) ?_
  refine wl_e rfl ?_; intro K hK
  refine ow_call Try.func15 rfl rfl (evs_cons (tmP rfl rfl) <| evs_nil) (word_c gr A0 _ _ n _ l false _ _ (hS.enter [0] [1] rfl rfl) hA (by omega) hcp hl hb) ?_
  rintro e w ⟨A1, c1, rfl, hS2, hA, hcp⟩
  refine ⟨_, rfl, ?_⟩
  replace hS := hS.turn 0 rfl rfl hS2 rfl
  clear hS2
  try replace hS := St.nm (M' := [_, .row _ _ _ _ _, .blk _ _ [_, _, _, _, _, _, _, _, _, _], .vw _ _]) hS rfl
  refine hK _ _ ?_; clear hK K
  refine wl_v (x_move (tmP rfl rfl)) ?_
  refine wl_e rfl ?_; intro K hK
  refine ow_call Try.func15 rfl rfl (evs_cons (tmP rfl rfl) <| evs_nil) (word_c gr A0 _ _ n _ l false _ _ (hS.enter [0] [1] rfl rfl) hA (by omega) hcp hl hb) ?_
  rintro e w ⟨A1, c1, rfl, hS2, hA, hcp⟩
  refine ⟨_, rfl, ?_⟩
  replace hS := hS.turn 0 rfl rfl hS2 rfl
  clear hS2
  try replace hS := St.nm (M' := [_, .row _ _ _ _ _, .blk _ _ [_, _, _, _, _, _, _, _, _, _], .vw _ _]) hS rfl
  refine hK _ _ ?_; clear hK K
  refine wl_v (x_move (tmP rfl rfl)) ?_
  refine wl_e rfl ?_; intro K hK
  refine ow_call Try.func25 rfl rfl (evs_cons (tmP rfl rfl) <| evs_nil) (long_c gr A0 _ _ n _ l false _ _ (hS.enter [0] [1] rfl rfl) hA (by omega) hcp hl hb) ?_
  rintro e w ⟨A1, c1, rfl, hS2, hA, hcp⟩
  refine ⟨_, rfl, ?_⟩
  replace hS := hS.turn 0 rfl rfl hS2 rfl
  clear hS2
  try replace hS := St.nm (M' := [_, .row _ _ _ _ _, .blk _ _ [_, _, _, _, _, _, _, _, _, _], .vw _ _]) hS rfl
  refine hK _ _ ?_; clear hK K
  refine wl_v (x_move (tmP rfl rfl)) ?_
  refine wl_e rfl ?_; intro K hK
  refine ow_call Try.func25 rfl rfl (evs_cons (tmP rfl rfl) <| evs_nil) (long_c gr A0 _ _ n _ l false _ _ (hS.enter [0] [1] rfl rfl) hA (by omega) hcp hl hb) ?_
  rintro e w ⟨A1, c1, rfl, hS2, hA, hcp⟩
  refine ⟨_, rfl, ?_⟩
  replace hS := hS.turn 0 rfl rfl hS2 rfl
  clear hS2
  try replace hS := St.nm (M' := [_, .row _ _ _ _ _, .blk _ _ [_, _, _, _, _, _, _, _, _, _], .vw _ _]) hS rfl
  refine hK _ _ ?_; clear hK K
  refine wl_v (x_build (bc_take (tmI rfl rfl) <| bc_take (tmI rfl rfl) <| bc_take (tmI rfl rfl) <| bc_take (tmI rfl rfl) <| bc_skip (.int .u8 0) <| bc_skip (.int .u16 0) <| bc_skip (.int .u16 0) <| bc_skip (.int .u16 0) <| bc_skip (.slice none 0 0) <| bc_skip (.slice none 0 0) <| bc_nil) (by kernel_rfl)) ?_
  refine wl_e rfl ?_; intro K hK
  refine ow_alloc hS tz_49 rfl ?_
  clear hS; intro g4_9 w hg4_9 hS
  refine hK _ _ ?_; clear hK K
  refine wl_e rfl ?_; intro K hK
  refine ow_storeA hS 0 rfl ts_49 (tmP rfl rfl) (tmA rfl rfl) rfl rfl rfl ?_
  clear hS; intro w hS
  try replace hS := St.nm (M' := [.blk _ _ [_, _, _, _, _, _, _, _, _, _], _, .row _ _ _ _ _, .blk _ _ [_, _, _, _, _, _, _, _, _, _], .vw _ _]) hS rfl
  refine hK _ _ ?_; clear hK K
  refine wl_nil ?_
  refine then_n (hK5 _ _ ?_); clear hK5 K5
  refine wp_seq_k ?_; intro K6 hK6
  refine wlit ?_
  refine wl_v (x_move (tmP rfl rfl)) ?_
  refine wl_e rfl ?_; intro K hK
  refine ow_call Try.func30 rfl rfl (evs_cons (tmP rfl rfl) <| evs_nil) (byte_c gr A0 _ _ n _ l false _ _ (hS.enter [1] [2] rfl rfl) hA (by omega) hcp hl hb) ?_
  rintro e w ⟨A1, c1, rfl, hS2, hA, hcp⟩
  refine ⟨_, rfl, ?_⟩
  replace hS := hS.turn 1 rfl rfl hS2 rfl
  clear hS2
  try replace hS := St.nm (M' := [.blk _ _ [_, _, _, _, _, _, _, _, _, _], _, .row _ _ _ _ _, .blk _ _ [_, _, _, _, _, _, _, _, _, _], .vw _ _]) hS rfl
  refine hK _ _ ?_; clear hK K
  refine wl_v (x_assign (tmI rfl rfl)) ?_
  refine wl_nil ?_
  refine then_n (hK6 _ _ ?_); clear hK6 K6
  refine wp_seq_k ?_; intro K7 hK7
  refine wlit ?_
  refine wl_v (x_move (tmI rfl rfl)) ?_
  refine wl_v (x_shrN (tmI rfl rfl) (ev_cN 4) (fit_u8 (by omega))) ?_
  refine wl_v (x_convN Try.underlying5 Try.underlying3 (tmI rfl rfl) (fit_i64 (by omega))) ?_
  refine wl_v (x_mulN (tmI rfl rfl) (ev_cN 4) (fit_i64 (by omega))) ?_
  refine wl_v (x_assign (tmI rfl (congrArg (fun q : Nat => Value.int .i64 (q : Int)) hz))) ?_
  refine wl_nil ?_
  refine then_n (hK7 _ _ ?_); clear hK7 K7
  refine wp_seq_k ?_; intro K8 hK8
  refine wp_seq_k ?_; intro K9 hK9
  refine wlit ?_
  refine wl_v (x_move (tmI rfl rfl)) ?_
  refine wl_v (x_lss (tmI rfl rfl) (ev_cN 20)) ?_
  refine wl_v (x_move (tmB rfl rfl)) ?_
  refine gs_wl (tm (t := 31) rfl) (fun hg7_2 => ?_) (fun hg7_2 => ?_)
  · have hg7_2' := hg7_2; (try simp only [nrm] at hg7_2')
    refine wl_s rfl (want_n rfl rfl rfl rfl (by rw [hg7_2]; rfl)) ?_
    refine wl_s rfl (want_n rfl rfl rfl rfl (by rw [hg7_2]; rfl)) ?_
    refine wl_s rfl (want_n rfl rfl rfl rfl (by rw [hg7_2]; rfl)) ?_
    refine wl_v (x_pickT (tmB rfl rfl) hg7_2 ev_c) ?_
    refine wl_nil ?_
    refine then_n (hK9 _ _ ?_); clear hK9 K9
    refine cnd_t (tmB rfl rfl) rfl ?_
    refine wp_seq_k ?_; intro K10 hK10
    refine wlit ?_
    refine wl_v (x_build (bc_skip (.int .u16 0) <| bc_skip (.int .u16 0) <| bc_skip (.int .u32 0) <| bc_skip (.int .u32 0) <| bc_skip (.int .u8 0) <| bc_skip (.int .u16 0) <| bc_skip (.int .u16 0) <| bc_skip (.int .u16 0) <| bc_skip (.slice none 0 0) <| bc_skip (.slice none 0 0) <| bc_nil) (by kernel_rfl)) ?_
    refine wl_e rfl ?_; intro K hK
    refine ow_storeA hS 3 rfl ts_49 (tmP rfl rfl) (tmA rfl rfl) rfl rfl rfl ?_
    clear hS; intro w hS
    try replace hS := St.nm (M' := [.blk _ _ [_, _, _, _, _, _, _, _, _, _], _, .row _ _ _ _ _, .blk _ _ [_, _, _, _, _, _, _, _, _, _], .vw _ _]) hS rfl
    refine hK _ _ ?_; clear hK K
    refine wl_v (x_assign (ev_cN 21)) ?_
    refine wl_nil ?_
    refine then_n (hK10 _ _ ?_); clear hK10 K10
    refine wp_ret ?_
    refine then_r ?_
    refine ret2 rfl (.cell rfl rfl (load_rowB (cs := [_, _, _, _, _, _, _, _, _, _]) hS.ok 3 rfl Try.underlying49 rfl ts_49 rfl)) (.tmp rfl (show _ = Value.int _ _ from rfl)) ?_
    first
      | (obtain rfl : er = 20 := by omega
         exact ⟨rfl, hS.kp⟩)
      | (obtain rfl : er = 21 := by omega
         exact ⟨rfl, hS.kp⟩)
  have hg7_2' := hg7_2; (try simp only [nrm] at hg7_2')
  refine wl_gv (want_y rfl rfl rfl rfl (by rw [hg7_2]; rfl)) (x_move (tmI rfl rfl)) ?_
  refine wl_gv (want_y rfl rfl rfl rfl (by rw [hg7_2]; rfl)) (x_andN (tmI rfl rfl) (ev_cN 15) (fit_u8 (by omega)) (fit_u8 (by omega))) ?_
  refine wl_gv (want_y rfl rfl rfl rfl (by rw [hg7_2]; rfl)) (x_neq (tmI rfl rfl) (ev_cN 0)) ?_
  refine wl_v (x_pickF (tmB rfl rfl) hg7_2 (tmB rfl rfl)) ?_
  refine wl_nil ?_
  refine then_n (hK9 _ _ ?_); clear hK9 K9
  refine cnd (tm rfl) (fun hc1 => ?_) (fun hc1 => ?_)
  · skip
    try simp only [nrm] at hc1
    refine wp_seq_k ?_; intro K12 hK12
    refine wlit ?_
    refine wl_v (x_build (bc_skip (.int .u16 0) <| bc_skip (.int .u16 0) <| bc_skip (.int .u32 0) <| bc_skip (.int .u32 0) <| bc_skip (.int .u8 0) <| bc_skip (.int .u16 0) <| bc_skip (.int .u16 0) <| bc_skip (.int .u16 0) <| bc_skip (.slice none 0 0) <| bc_skip (.slice none 0 0) <| bc_nil) (by kernel_rfl)) ?_
    refine wl_e rfl ?_; intro K hK
    refine ow_storeA hS 3 rfl ts_49 (tmP rfl rfl) (tmA rfl rfl) rfl rfl rfl ?_
    clear hS; intro w hS
    try replace hS := St.nm (M' := [.blk _ _ [_, _, _, _, _, _, _, _, _, _], _, .row _ _ _ _ _, .blk _ _ [_, _, _, _, _, _, _, _, _, _], .vw _ _]) hS rfl
    refine hK _ _ ?_; clear hK K
    refine wl_v (x_assign (ev_cN 21)) ?_
    refine wl_nil ?_
    refine then_n (hK12 _ _ ?_); clear hK12 K12
    refine wp_ret ?_
    refine then_r ?_
    refine ret2 rfl (.cell rfl rfl (load_rowB (cs := [_, _, _, _, _, _, _, _, _, _]) hS.ok 3 rfl Try.underlying49 rfl ts_49 rfl)) (.tmp rfl (show _ = Value.int _ _ from rfl)) ?_
    first
      | (obtain rfl : er = 20 := by omega
         exact ⟨rfl, hS.kp⟩)
      | (obtain rfl : er = 21 := by omega
         exact ⟨rfl, hS.kp⟩)
  try simp only [nrm] at hc1
  refine wp_skip ?_
  refine then_n (hK8 _ _ ?_); clear hK8 K8
  refine wp_seq_k ?_; intro K14 hK14
  refine wp_seq_k ?_; intro K15 hK15
  refine wlit ?_
  refine wl_v (x_move (tmS rfl rfl)) ?_
  refine wl_v (x_len Try.underlying22 (tmS rfl rfl)) ?_
  refine wl_v (x_move (tmI rfl rfl)) ?_
  refine wl_v (x_lss (tmI rfl rfl) (tmI rfl rfl)) ?_
  refine wl_nil ?_
  refine then_n (hK15 _ _ ?_); clear hK15 K15
  refine cnds (tm rfl) (fun hc2 => ?_) (fun hc2 => ?_)
  · exfalso
    simp at hc2
    omega
  try simp only [nrm] at hc2
  refine wp_seq_k ?_; intro K16 hK16
  refine wlit ?_
  refine wl_v (x_build (bc_skip (.int .u16 0) <| bc_skip (.int .u16 0) <| bc_skip (.int .u32 0) <| bc_skip (.int .u32 0) <| bc_skip (.int .u8 0) <| bc_skip (.int .u16 0) <| bc_skip (.int .u16 0) <| bc_skip (.int .u16 0) <| bc_skip (.slice none 0 0) <| bc_skip (.slice none 0 0) <| bc_nil) (by kernel_rfl)) ?_
  refine wl_e rfl ?_; intro K hK
  refine ow_storeA hS 3 rfl ts_49 (tmP rfl rfl) (tmA rfl rfl) rfl rfl rfl ?_
  clear hS; intro w hS
  try replace hS := St.nm (M' := [.blk _ _ [_, _, _, _, _, _, _, _, _, _], _, .row _ _ _ _ _, .blk _ _ [_, _, _, _, _, _, _, _, _, _], .vw _ _]) hS rfl
  refine hK _ _ ?_; clear hK K
  refine wl_v (x_assign (ev_cN 20)) ?_
  refine wl_nil ?_
  refine then_n (hK16 _ _ ?_); clear hK16 K16
  refine wp_ret ?_
  refine then_r ?_
  refine ret2 rfl (.cell rfl rfl (load_rowB (cs := [_, _, _, _, _, _, _, _, _, _]) hS.ok 3 rfl Try.underlying49 rfl ts_49 rfl)) (.tmp rfl (show _ = Value.int _ _ from rfl)) ?_
  first
    | (obtain rfl : er = 20 := by omega
       exact ⟨rfl, hS.kp⟩)
    | (obtain rfl : er = 21 := by omega
       exact ⟨rfl, hS.kp⟩)

end Go.Proofs.Ytcobjneobdihkaa
/- tcp: the reference's Parse, by contract. Conditions: none but bounds. -/
namespace Go.Proofs.Ytcobjneobdihkaa
open Go.RowKit

set_option maxRecDepth 100000 in
set_option maxHeartbeats 4000000 in
theorem rtcp_parse_bad (n : Nat) (A : Option Addr) (c : Nat) (l : List Nat) (w0 : World) (hv : View w0 w0.heap.size A (l.map u8v)) (hl : l.length = n) (hb : Bytes l) (hn4 : n ≤ 1000000)
    (sz er : Nat) (hsz : sz = nth l 12 / 16 * 4) (h : (n < 20 ∧ er = 20) ∨ (20 ≤ n ∧ (sz < 20 ∨ nth l 12 % 16 ≠ 0) ∧ er = 21) ∨ (20 ≤ n ∧ 20 ≤ sz ∧ nth l 12 % 16 = 0 ∧ n < sz ∧ er = 20)) :
    Calls Try.prog 19 #[.slice A n c] w0 fun e w' => e = .returned (.tuple #[.agg (segV 0 0 0 0 0 0 0 0 none 0 0 none 0 0).toArray, .int .i64 (er : Int)]) ∧ Kp [] w0 w' := by
  have hS := (St.sv w0).vcons rfl hv
  have hqb := nth_lt hb 12
  by_cases h20 : n < 20
  · skip
    refine ent (n := 69) Try.func19 rfl rfl ?_
    refine wp_seq_k ?_; intro K1 hK1
    refine wlit ?_
    refine wl_e rfl ?_; intro K hK
    refine ow_alloc hS tz_40 rfl ?_
    clear hS; intro g0_0 w hg0_0 hS
    refine hK _ _ ?_; clear hK K
    refine wl_v (x_assign (ev_cN 0)) ?_
    refine wl_nil ?_
    refine then_n (hK1 _ _ ?_); clear hK1 K1
    refine wp_seq_k ?_; intro K2 hK2
    refine wp_seq_k ?_; intro K3 hK3
    refine wlit ?_
    refine wl_v (x_move (tmS rfl rfl)) ?_
    refine wl_v (x_len Try.underlying22 (tmS rfl rfl)) ?_
    refine wl_v (x_lss (tmI rfl rfl) (ev_cN 20)) ?_
    refine wl_nil ?_
    refine then_n (hK3 _ _ ?_); clear hK3 K3
    refine cnds (tm rfl) (fun hc0 => ?_) (fun hc0 => ?_)
    · exfalso
      simp at hc0
      omega
    try simp only [nrm] at hc0
    refine wp_seq_k ?_; intro K4 hK4
    refine wlit ?_
    refine wl_v (x_build (bc_skip (.int .u16 0) <| bc_skip (.int .u16 0) <| bc_skip (.int .u32 0) <| bc_skip (.int .u32 0) <| bc_skip (.int .u8 0) <| bc_skip (.int .u16 0) <| bc_skip (.int .u16 0) <| bc_skip (.int .u16 0) <| bc_skip (.slice none 0 0) <| bc_skip (.slice none 0 0) <| bc_nil) (by kernel_rfl)) ?_
    refine wl_e rfl ?_; intro K hK
    refine ow_storeA hS 0 rfl ts_40 (tmP rfl rfl) (tmA rfl rfl) rfl rfl rfl ?_
    clear hS; intro w hS
    try replace hS := St.nm (M' := [.blk _ _ [_, _, _, _, _, _, _, _, _, _], .vw _ _]) hS rfl
    refine hK _ _ ?_; clear hK K
    refine wl_v (x_assign (ev_cN 20)) ?_
    refine wl_nil ?_
    refine then_n (hK4 _ _ ?_); clear hK4 K4
    refine wp_ret ?_
    refine then_r ?_
    refine ret2 rfl (.cell rfl rfl (load_rowB (cs := [_, _, _, _, _, _, _, _, _, _]) hS.ok 0 rfl Try.underlying40 rfl ts_40 rfl)) (.tmp rfl (show _ = Value.int _ _ from rfl)) ?_
    obtain rfl : er = 20 := by omega
    exact ⟨rfl, hS.kp⟩
  have hz : nth l 12 / 16 * 4 = sz := hsz.symm
  have hqb2 : l.getD 12 0 < 256 := nth_lt hb 12
  obtain ⟨b4, o4, rfl⟩ := view_some hv (by rw [List.length_map]; omega)
  refine ent (n := 69) Try.func19 rfl rfl ?_
  refine wp_seq_k ?_; intro K1 hK1
  refine wlit ?_
  refine wl_e rfl ?_; intro K hK
  refine ow_alloc hS tz_40 rfl ?_
  clear hS; intro g0_0 w hg0_0 hS
  refine hK _ _ ?_; clear hK K
  refine wl_v (x_assign (ev_cN 0)) ?_
  refine wl_nil ?_
  refine then_n (hK1 _ _ ?_); clear hK1 K1
  refine wp_seq_k ?_; intro K2 hK2
  refine wp_seq_k ?_; intro K3 hK3
  refine wlit ?_
  refine wl_v (x_move (tmS rfl rfl)) ?_
  refine wl_v (x_len Try.underlying22 (tmS rfl rfl)) ?_
  refine wl_v (x_lss (tmI rfl rfl) (ev_cN 20)) ?_
  refine wl_nil ?_
  refine then_n (hK3 _ _ ?_); clear hK3 K3
  refine cnd (tm rfl) (fun hc0 => ?_) (fun hc0 => ?_)
  · exfalso
    simp at hc0
    omega
  try simp only [nrm] at hc0
  refine wp_skip ?_
  refine then_n (hK2 _ _ ?_); clear hK2 K2
  refine wp_seq_k ?_; intro K4 hK4
  refine wlit ?_
  refine wl_v (x_move (tmS rfl rfl)) ?_
  refine wl_v (x_ixs1 Try.underlying22 ts_5 (tmS rfl rfl) (ev_cN 12) (by omega)) ?_
  refine wl_v (x_load Try.underlying5 rfl (tmP rfl rfl) (cellV hS.ok 1 rfl (getm (by omega)))) ?_
  refine wl_v (x_quoN (tmI rfl rfl) (ev_cN 16) (by omega) (fit_u8 (by omega))) ?_
  refine wl_v (x_convN Try.underlying5 Try.underlying3 (tmI rfl rfl) (fit_i64 (by omega))) ?_
  refine wl_v (x_mulN (tmI rfl rfl) (ev_cN 4) (fit_i64 (by omega))) ?_
  refine wl_v (x_assign (tmI rfl (congrArg (fun q : Nat => Value.int .i64 (q : Int)) hz))) ?_
  refine wl_nil ?_
  refine then_n (hK4 _ _ ?_); clear hK4 K4
  refine wp_seq_k ?_; intro K5 hK5
  refine wp_seq_k ?_; intro K6 hK6
  refine wlit ?_
  refine wl_v (x_move (tmI rfl rfl)) ?_
  refine wl_v (x_lss (tmI rfl rfl) (ev_cN 20)) ?_
  refine wl_v (x_move (tmB rfl rfl)) ?_
  refine gs_wl (tm (t := 18) rfl) (fun hg4_2 => ?_) (fun hg4_2 => ?_)
  · have hg4_2' := hg4_2; (try simp only [nrm] at hg4_2')
    refine wl_s rfl (want_n rfl rfl rfl rfl (by rw [hg4_2]; rfl)) ?_
    refine wl_s rfl (want_n rfl rfl rfl rfl (by rw [hg4_2]; rfl)) ?_
    refine wl_s rfl (want_n rfl rfl rfl rfl (by rw [hg4_2]; rfl)) ?_
    refine wl_s rfl (want_n rfl rfl rfl rfl (by rw [hg4_2]; rfl)) ?_
    refine wl_s rfl (want_n rfl rfl rfl rfl (by rw [hg4_2]; rfl)) ?_
    refine wl_v (x_pickT (tmB rfl rfl) hg4_2 ev_c) ?_
    refine wl_nil ?_
    refine then_n (hK6 _ _ ?_); clear hK6 K6
    refine cnd_t (tmB rfl rfl) rfl ?_
    refine wp_seq_k ?_; intro K7 hK7
    refine wlit ?_
    refine wl_v (x_build (bc_skip (.int .u16 0) <| bc_skip (.int .u16 0) <| bc_skip (.int .u32 0) <| bc_skip (.int .u32 0) <| bc_skip (.int .u8 0) <| bc_skip (.int .u16 0) <| bc_skip (.int .u16 0) <| bc_skip (.int .u16 0) <| bc_skip (.slice none 0 0) <| bc_skip (.slice none 0 0) <| bc_nil) (by kernel_rfl)) ?_
    refine wl_e rfl ?_; intro K hK
    refine ow_storeA hS 0 rfl ts_40 (tmP rfl rfl) (tmA rfl rfl) rfl rfl rfl ?_
    clear hS; intro w hS
    try replace hS := St.nm (M' := [.blk _ _ [_, _, _, _, _, _, _, _, _, _], .vw _ _]) hS rfl
    refine hK _ _ ?_; clear hK K
    refine wl_v (x_assign (ev_cN 21)) ?_
    refine wl_nil ?_
    refine then_n (hK7 _ _ ?_); clear hK7 K7
    refine wp_ret ?_
    refine then_r ?_
    refine ret2 rfl (.cell rfl rfl (load_rowB (cs := [_, _, _, _, _, _, _, _, _, _]) hS.ok 0 rfl Try.underlying40 rfl ts_40 rfl)) (.tmp rfl (show _ = Value.int _ _ from rfl)) ?_
    have : l.getD 12 0 = nth l 12 := rfl
    first
      | (obtain rfl : er = 20 := by omega
         exact ⟨rfl, hS.kp⟩)
      | (obtain rfl : er = 21 := by omega
         exact ⟨rfl, hS.kp⟩)
  have hg4_2' := hg4_2; (try simp only [nrm] at hg4_2')
  refine wl_gv (want_y rfl rfl rfl rfl (by rw [hg4_2]; rfl)) (x_move (tmS rfl rfl)) ?_
  refine wl_gv (want_y rfl rfl rfl rfl (by rw [hg4_2]; rfl)) (x_ixs1 Try.underlying22 ts_5 (tmS rfl rfl) (ev_cN 12) (by omega)) ?_
  refine wl_gv (want_y rfl rfl rfl rfl (by rw [hg4_2]; rfl)) (x_load Try.underlying5 rfl (tmP rfl rfl) (cellV hS.ok 1 rfl (getm (by omega)))) ?_
  refine wl_gv (want_y rfl rfl rfl rfl (by rw [hg4_2]; rfl)) (x_remN (tmI rfl rfl) (ev_cN 16) (by omega)) ?_
  refine wl_gv (want_y rfl rfl rfl rfl (by rw [hg4_2]; rfl)) (x_neq (tmI rfl rfl) (ev_cN 0)) ?_
  refine wl_v (x_pickF (tmB rfl rfl) hg4_2 (tmB rfl rfl)) ?_
  refine wl_nil ?_
  refine then_n (hK6 _ _ ?_); clear hK6 K6
  refine cnd (tm rfl) (fun hc1 => ?_) (fun hc1 => ?_)
  · skip
    try simp only [nrm] at hc1
    refine wp_seq_k ?_; intro K9 hK9
    refine wlit ?_
    refine wl_v (x_build (bc_skip (.int .u16 0) <| bc_skip (.int .u16 0) <| bc_skip (.int .u32 0) <| bc_skip (.int .u32 0) <| bc_skip (.int .u8 0) <| bc_skip (.int .u16 0) <| bc_skip (.int .u16 0) <| bc_skip (.int .u16 0) <| bc_skip (.slice none 0 0) <| bc_skip (.slice none 0 0) <| bc_nil) (by kernel_rfl)) ?_
    refine wl_e rfl ?_; intro K hK
    refine ow_storeA hS 0 rfl ts_40 (tmP rfl rfl) (tmA rfl rfl) rfl rfl rfl ?_
    clear hS; intro w hS
    try replace hS := St.nm (M' := [.blk _ _ [_, _, _, _, _, _, _, _, _, _], .vw _ _]) hS rfl
    refine hK _ _ ?_; clear hK K
    refine wl_v (x_assign (ev_cN 21)) ?_
    refine wl_nil ?_
    refine then_n (hK9 _ _ ?_); clear hK9 K9
    refine wp_ret ?_
    refine then_r ?_
    refine ret2 rfl (.cell rfl rfl (load_rowB (cs := [_, _, _, _, _, _, _, _, _, _]) hS.ok 0 rfl Try.underlying40 rfl ts_40 rfl)) (.tmp rfl (show _ = Value.int _ _ from rfl)) ?_
    have : l.getD 12 0 = nth l 12 := rfl
    first
      | (obtain rfl : er = 20 := by omega
         exact ⟨rfl, hS.kp⟩)
      | (obtain rfl : er = 21 := by omega
         exact ⟨rfl, hS.kp⟩)
  try simp only [nrm] at hc1
  refine wp_skip ?_
  refine then_n (hK5 _ _ ?_); clear hK5 K5
  refine wp_seq_k ?_; intro K11 hK11
  refine wp_seq_k ?_; intro K12 hK12
  refine wlit ?_
  refine wl_v (x_move (tmI rfl rfl)) ?_
  refine wl_v (x_move (tmS rfl rfl)) ?_
  refine wl_v (x_len Try.underlying22 (tmS rfl rfl)) ?_
  refine wl_v (x_gtr (tmI rfl rfl) (tmI rfl rfl)) ?_
  refine wl_nil ?_
  refine then_n (hK12 _ _ ?_); clear hK12 K12
  refine cnds (tm rfl) (fun hc2 => ?_) (fun hc2 => ?_)
  · exfalso
    simp at hc2
    have : l.getD 12 0 = nth l 12 := rfl
    omega
  try simp only [nrm] at hc2
  refine wp_seq_k ?_; intro K13 hK13
  refine wlit ?_
  refine wl_v (x_build (bc_skip (.int .u16 0) <| bc_skip (.int .u16 0) <| bc_skip (.int .u32 0) <| bc_skip (.int .u32 0) <| bc_skip (.int .u8 0) <| bc_skip (.int .u16 0) <| bc_skip (.int .u16 0) <| bc_skip (.int .u16 0) <| bc_skip (.slice none 0 0) <| bc_skip (.slice none 0 0) <| bc_nil) (by kernel_rfl)) ?_
  refine wl_e rfl ?_; intro K hK
  refine ow_storeA hS 0 rfl ts_40 (tmP rfl rfl) (tmA rfl rfl) rfl rfl rfl ?_
  clear hS; intro w hS
  try replace hS := St.nm (M' := [.blk _ _ [_, _, _, _, _, _, _, _, _, _], .vw _ _]) hS rfl
  refine hK _ _ ?_; clear hK K
  refine wl_v (x_assign (ev_cN 20)) ?_
  refine wl_nil ?_
  refine then_n (hK13 _ _ ?_); clear hK13 K13
  refine wp_ret ?_
  refine then_r ?_
  refine ret2 rfl (.cell rfl rfl (load_rowB (cs := [_, _, _, _, _, _, _, _, _, _]) hS.ok 0 rfl Try.underlying40 rfl ts_40 rfl)) (.tmp rfl (show _ = Value.int _ _ from rfl)) ?_
  have : l.getD 12 0 = nth l 12 := rfl
  first
    | (obtain rfl : er = 20 := by omega
       exact ⟨rfl, hS.kp⟩)
    | (obtain rfl : er = 21 := by omega
       exact ⟨rfl, hS.kp⟩)

end Go.Proofs.Ytcobjneobdihkaa
/- tcp: Same, Of, To, Stamps, the law's awake, by contract. Conditions: none but bounds. -/
namespace Go.Proofs.Ytcobjneobdihkaa
open Go.RowKit

set_option maxRecDepth 100000 in
set_option maxHeartbeats 4000000 in
theorem stampsAt_c (p q : Nat) (w0 : World) (h : p ≤ 1000000) :
    Calls Try.prog 46 #[.int .i64 (p : Int), .int .u8 (q : Int)] w0 fun e w' => e = .returned (.tuple #[.int .i64 ((if q = 10 then p + 2 else 0 : Nat) : Int), .bool (decide (q = 10))]) ∧ Kp [] w0 w' := by
  have hS := St.sv w0
  refine ent (n := 10) Try.func46 rfl rfl ?_
  refine wp_seq_k ?_; intro K1 hK1
  refine wlit ?_
  refine wl_v (x_assign (ev_cN 0)) ?_
  refine wl_v (x_assign ev_c) ?_
  refine wl_nil ?_
  refine then_n (hK1 _ _ ?_); clear hK1 K1
  refine wp_seq_k ?_; intro K2 hK2
  refine wp_seq_k ?_; intro K3 hK3
  refine wlit ?_
  refine wl_v (x_move (tmI rfl rfl)) ?_
  refine wl_v (x_neq (tmI rfl rfl) (ev_cN 10)) ?_
  refine wl_nil ?_
  refine then_n (hK3 _ _ ?_); clear hK3 K3
  refine cnd (tm rfl) (fun hc0 => ?_) (fun hc0 => ?_)
  · skip
    try simp only [nrm] at hc0
    refine wp_seq_k ?_; intro K4 hK4
    refine wlit ?_
    refine wl_v (x_assign (ev_cN 0)) ?_
    refine wl_v (x_assign ev_c) ?_
    refine wl_nil ?_
    refine then_n (hK4 _ _ ?_); clear hK4 K4
    refine wp_ret ?_
    refine then_r ?_
    refine ret2 rfl (.tmp rfl (show _ = Value.int _ _ from rfl)) (.tmp rfl (show _ = Value.bool _ from rfl)) ?_
    simp [hc0]
    exact hS.kp
  try simp only [nrm] at hc0
  refine wp_skip ?_
  refine then_n (hK2 _ _ ?_); clear hK2 K2
  refine wp_seq_k ?_; intro K5 hK5
  refine wlit ?_
  refine wl_v (x_move (tmI rfl rfl)) ?_
  refine wl_v (x_addN (tmI rfl rfl) (ev_cN 2) (fit_i64 (by omega))) ?_
  refine wl_v (x_assign (tmI rfl rfl)) ?_
  refine wl_v (x_assign ev_c) ?_
  refine wl_nil ?_
  refine then_n (hK5 _ _ ?_); clear hK5 K5
  refine wp_ret ?_
  refine ret2 rfl (.tmp rfl (show _ = Value.int _ _ from rfl)) (.tmp rfl (show _ = Value.bool _ from rfl)) ?_
  simp [hc0]
  exact hS.kp

/-- Where the time stamps stand in options: by the chapter, from place p on (with so much fuel). -/
def stampsF (l : List Nat) : Nat → Nat → Option Nat
  | 0, _ => none
  | f + 1, p =>
    if p < l.length ∧ nth l p ≠ 0 then
      if nth l p = 1 then stampsF l f (p + 1)
      else if l.length - p < 2 ∨ nth l (p + 1) < 2 ∨ l.length - p < nth l (p + 1) then none
      else if nth l p = 8 then (if nth l (p + 1) = 10 then some (p + 2) else none)
      else stampsF l f (p + nth l (p + 1))
    else none
theorem stampsF_more (l : List Nat) : ∀ f f' p, l.length - p < f → l.length - p < f' → stampsF l f p = stampsF l f' p := by
  intro f
  induction f with
  | zero => intro f' p h; omega
  | succ f ih =>
    intro f' p h h'
    cases f' with
    | zero => omega
    | succ f' =>
      simp only [stampsF]
      split
      · rename_i hp
        split
        · exact ih _ _ (by omega) (by omega)
        · split
          · rfl
          · rename_i h1
            split
            · rfl
            · exact ih _ _ (by omega) (by omega)
      · rfl
def stampsL (l : List Nat) (p : Nat) : Option Nat := stampsF l (l.length - p + 1) p
theorem stampsL_eq (l : List Nat) (p : Nat) : stampsL l p = if p < l.length ∧ nth l p ≠ 0 then
      if nth l p = 1 then stampsL l (p + 1)
      else if l.length - p < 2 ∨ nth l (p + 1) < 2 ∨ l.length - p < nth l (p + 1) then none
      else if nth l p = 8 then (if nth l (p + 1) = 10 then some (p + 2) else none)
      else stampsL l (p + nth l (p + 1))
    else none := by
  unfold stampsL
  conv => lhs; rw [stampsF]
  split
  · rename_i hp
    split
    · exact stampsF_more _ _ _ _ (by omega) (by omega)
    · split
      · rfl
      · rename_i h1
        split
        · rfl
        · exact stampsF_more _ _ _ _ (by omega) (by omega)
  · rfl

set_option maxRecDepth 100000 in
set_option maxHeartbeats 4000000 in
theorem stamps_c (n : Nat) (A : Option Addr) (c : Nat) (l : List Nat) (w0 : World) (hv : View w0 w0.heap.size A (l.map u8v)) (hl : l.length = n) (hb : Bytes l) (hn4 : n ≤ 900000) :
    Calls Try.prog 24 #[.slice A n c] w0 fun e w' => e = .returned (.tuple #[.int .i64 (((stampsL l 0).getD 0 : Nat) : Int), .bool (stampsL l 0).isSome]) ∧ Kp [] w0 w' := by
  have hS := (St.sv w0).vcons rfl hv
  refine ent (n := 70) Try.func24 rfl rfl ?_
  refine wp_seq_k ?_; intro K1 hK1
  refine wlit ?_
  refine wl_v (x_assign (ev_cN 0)) ?_
  refine wl_v (x_assign ev_c) ?_
  refine wl_nil ?_
  refine then_n (hK1 _ _ ?_); clear hK1 K1
  refine wp_seq_k ?_; intro K2 hK2
  refine wp_seq_k ?_; intro K3 hK3
  refine wlit ?_
  refine wl_v (x_assign (ev_cN 0)) ?_
  refine wl_nil ?_
  refine then_n (hK3 _ _ ?_); clear hK3 K3
  refine wp_block ?_
  refine lp [2, 3, 4, 5, 6, 7, 8, 9, 10, 11, 12, 13, 14, 15, 16, 17, 18, 19, 20, 21, 22, 23, 24, 25, 26, 27, 28, 29, 30, 31, 32, 33, 34, 35, 36, 37, 38, 39, 40, 41, 42, 43, 44, 45, 46, 47, 48, 49, 50, 51, 52, 53, 54, 55, 56, 57, 58, 59, 60, 61, 62, 63, 64, 65, 66, 67, 68, 69] (fun mz g w => ∃ (p : Nat), mz = n - p ∧ g 4 = .int .i64 (p : Int) ∧ St [] w0 [.vw A (l.map u8v)] w ∧ (p ≤ n) ∧ (stampsL l 0 = stampsL l p)) ?_ ?_
  · exact ⟨_, 0, rfl, (by first | rfl | go_num | exact congrArg (Value.int _) (by first | omega | (simp; done) | (simp; omega))), hS, (by omega), (by first | rfl | exact hx1 | exact hx2)⟩
  · clear hS; intro mz g w hI
    obtain ⟨p, rfl, hs4, hS, hp, hst⟩ := hI
    refine fr_know (d := 4) hs4 ?_; clear hs4
    refine wp_seq_k ?_; intro K4 hK4
    refine wp_seq_k ?_; intro K5 hK5
    refine wlit ?_
    refine wl_v (x_move (tmI rfl rfl)) ?_
    refine wl_v (x_move (tmS rfl rfl)) ?_
    refine wl_v (x_len Try.underlying22 (tmS rfl rfl)) ?_
    refine wl_v (x_lss (tmI rfl rfl) (tmI rfl rfl)) ?_
    refine wl_v (x_move (tmB rfl rfl)) ?_
    refine gs_wl (tm (t := 10) rfl) (fun hg2_4 => ?_) (fun hg2_4 => ?_)
    · have hg2_4' := hg2_4; (try simp only [nrm] at hg2_4')
      obtain ⟨b4, o4, rfl⟩ := view_some hv (by rw [List.length_map]; omega)
      have e1 : l.getD p 0 = nth l p := rfl
      have e2 : l.getD (p + 1) 0 = nth l (p + 1) := rfl
      have q1 := nth_lt hb p
      have q2 := nth_lt hb (p + 1)
      have hu := stampsL_eq l p
      refine wl_gv (want_y rfl rfl rfl rfl (by rw [hg2_4]; rfl)) (x_move (tmS rfl rfl)) ?_
      refine wl_gv (want_y rfl rfl rfl rfl (by rw [hg2_4]; rfl)) (x_move (tmI rfl rfl)) ?_
      refine wl_gv (want_y rfl rfl rfl rfl (by rw [hg2_4]; rfl)) (x_ixs1 Try.underlying22 ts_5 (tmS rfl rfl) (tmI rfl rfl) (by omega)) ?_
      refine wl_gv (want_y rfl rfl rfl rfl (by rw [hg2_4]; rfl)) (x_load Try.underlying5 rfl (tmP rfl rfl) (cellV hS.ok 0 rfl (getm (by omega)))) ?_
      refine wl_gv (want_y rfl rfl rfl rfl (by rw [hg2_4]; rfl)) (x_neq (tmI rfl rfl) (ev_cN 0)) ?_
      refine wl_v (x_pickT (tmB rfl rfl) hg2_4 (tmB rfl rfl)) ?_
      refine wl_nil ?_
      refine then_n (hK5 _ _ ?_); clear hK5 K5
      refine cnd (tm rfl) (fun hc0 => ?_) (fun hc0 => ?_)
      · skip
        try simp only [nrm] at hc0
        refine wp_skip ?_
        refine then_n (hK4 _ _ ?_); clear hK4 K4
        refine wp_block ?_
        refine wp_seq_k ?_; intro K6 hK6
        refine wp_seq_k ?_; intro K7 hK7
        refine wlit ?_
        refine wl_v (x_move (tmS rfl rfl)) ?_
        refine wl_v (x_move (tmI rfl rfl)) ?_
        refine wl_v (x_ixs1 Try.underlying22 ts_5 (tmS rfl rfl) (tmI rfl rfl) (by omega)) ?_
        refine wl_v (x_load Try.underlying5 rfl (tmP rfl rfl) (cellV hS.ok 0 rfl (getm (by omega)))) ?_
        refine wl_v (x_eql (tmI rfl rfl) (ev_cN 1)) ?_
        refine wl_nil ?_
        refine then_n (hK7 _ _ ?_); clear hK7 K7
        refine cnd (tm rfl) (fun hc1 => ?_) (fun hc1 => ?_)
        · skip
          try simp only [nrm] at hc1
          have hx1 : stampsL l 0 = stampsL l (p + 1) := by rw [hst, hu, if_pos ⟨by omega, by omega⟩, if_pos (by omega)]
          refine wp_seq_k ?_; intro K8 hK8
          refine wlit ?_
          refine wl_v (x_move (tmI rfl rfl)) ?_
          refine wl_v (x_addN (tmI rfl rfl) (ev_cN 1) (fit_i64 (by omega))) ?_
          refine wl_v (x_assign (tmI rfl rfl)) ?_
          refine wl_nil ?_
          refine then_n (hK8 _ _ ?_); clear hK8 K8
          refine wp_exit ?_
          refine then_x ?_; clear hK6 K6
          refine inb_x ?_
          exact then_n ⟨_, _, rfl, (by show _ < _; omega), (by repeat (first | exact agree_self | exact agree_refl | refine agree_upd rfl ?_ | refine agree_mix rfl ?_)), p + 1, rfl, (by first | rfl | go_num | exact congrArg (Value.int _) (by first | omega | (simp; done) | (simp; omega))), hS, (by omega), (by first | rfl | exact hx1 | exact hx2)⟩
        try simp only [nrm] at hc1
        refine wp_skip ?_
        refine then_n (hK6 _ _ ?_); clear hK6 K6
        refine wp_seq_k ?_; intro K9 hK9
        refine wlit ?_
        refine wl_v (x_move (tmS rfl rfl)) ?_
        refine wl_v (x_len Try.underlying22 (tmS rfl rfl)) ?_
        refine wl_v (x_move (tmI rfl rfl)) ?_
        refine wl_v (x_subN (tmI rfl rfl) (tmI rfl rfl) (fit_i64 (by omega)) (by omega)) ?_
        refine wl_v (x_assign (tmI rfl rfl)) ?_
        refine wl_nil ?_
        refine then_n (hK9 _ _ ?_); clear hK9 K9
        refine wp_seq_k ?_; intro K10 hK10
        refine wp_seq_k ?_; intro K11 hK11
        refine wlit ?_
        refine wl_v (x_move (tmI rfl rfl)) ?_
        refine wl_v (x_lss (tmI rfl rfl) (ev_cN 2)) ?_
        refine wl_v (x_move (tmB rfl rfl)) ?_
        refine gs_wl (tm (t := 30) rfl) (fun hg6_2 => ?_) (fun hg6_2 => ?_)
        · have hg6_2' := hg6_2; (try simp only [nrm] at hg6_2')
          refine wl_s rfl (want_n rfl rfl rfl rfl (by rw [hg6_2]; rfl)) ?_
          refine wl_s rfl (want_n rfl rfl rfl rfl (by rw [hg6_2]; rfl)) ?_
          refine wl_s rfl (want_n rfl rfl rfl rfl (by rw [hg6_2]; rfl)) ?_
          refine wl_s rfl (want_n rfl rfl rfl rfl (by rw [hg6_2]; rfl)) ?_
          refine wl_s rfl (want_n rfl rfl rfl rfl (by rw [hg6_2]; rfl)) ?_
          refine wl_s rfl (want_n rfl rfl rfl rfl (by rw [hg6_2]; rfl)) ?_
          refine wl_v (x_pickT (tmB rfl rfl) hg6_2 ev_c) ?_
          refine wl_v (x_move (tmB rfl rfl)) ?_
          refine wl_s rfl (want_n rfl rfl rfl rfl rfl) ?_
          refine wl_s rfl (want_n rfl rfl rfl rfl rfl) ?_
          refine wl_s rfl (want_n rfl rfl rfl rfl rfl) ?_
          refine wl_s rfl (want_n rfl rfl rfl rfl rfl) ?_
          refine wl_s rfl (want_n rfl rfl rfl rfl rfl) ?_
          refine wl_s rfl (want_n rfl rfl rfl rfl rfl) ?_
          refine wl_s rfl (want_n rfl rfl rfl rfl rfl) ?_
          refine wl_s rfl (want_n rfl rfl rfl rfl rfl) ?_
          refine wl_v (x_pickT (tmB rfl rfl) rfl ev_c) ?_
          refine wl_nil ?_
          refine then_n (hK11 _ _ ?_); clear hK11 K11
          refine cnd_t (tmB rfl rfl) rfl ?_
          refine wp_seq_k ?_; intro K12 hK12
          refine wlit ?_
          refine wl_v (x_assign (ev_cN 0)) ?_
          refine wl_v (x_assign ev_c) ?_
          refine wl_nil ?_
          refine then_n (hK12 _ _ ?_); clear hK12 K12
          refine wp_ret ?_
          refine then_r ?_
          refine inb_r ?_
          refine then_r ?_
          refine inb_r ?_
          refine then_r ?_
          refine ret2 rfl (.tmp rfl (show _ = Value.int _ _ from rfl)) (.tmp rfl (show _ = Value.bool _ from rfl)) ?_
          have hu := stampsL_eq l p
          have e1 : l.getD p 0 = nth l p := rfl
          have e2 : l.getD (p + 1) 0 = nth l (p + 1) := rfl
          refine ⟨?_, hS.kp⟩
          rw [hst]
          first
            | (rw [if_neg (by omega)] at hu
               rw [hu]; rfl)
            | (rw [if_pos ⟨by omega, by omega⟩, if_neg (by omega), if_pos (by omega)] at hu
               rw [hu]; rfl)
            | (rw [if_pos ⟨by omega, by omega⟩, if_neg (by omega), if_neg (by omega), if_pos (by omega)] at hu
               rw [hu, e2]
               split <;> simp [*])
        have hg6_2' := hg6_2; (try simp only [nrm] at hg6_2')
        refine wl_gv (want_y rfl rfl rfl rfl (by rw [hg6_2]; rfl)) (x_move (tmS rfl rfl)) ?_
        refine wl_gv (want_y rfl rfl rfl rfl (by rw [hg6_2]; rfl)) (x_move (tmI rfl rfl)) ?_
        refine wl_gv (want_y rfl rfl rfl rfl (by rw [hg6_2]; rfl)) (x_addN (tmI rfl rfl) (ev_cN 1) (fit_i64 (by omega))) ?_
        refine wl_gv (want_y rfl rfl rfl rfl (by rw [hg6_2]; rfl)) (x_ixs1 Try.underlying22 ts_5 (tmS rfl rfl) (tmI rfl rfl) (by omega)) ?_
        refine wl_gv (want_y rfl rfl rfl rfl (by rw [hg6_2]; rfl)) (x_load Try.underlying5 rfl (tmP rfl rfl) (cellV hS.ok 0 rfl (getm (by omega)))) ?_
        refine wl_gv (want_y rfl rfl rfl rfl (by rw [hg6_2]; rfl)) (x_lss (tmI rfl rfl) (ev_cN 2)) ?_
        refine wl_v (x_pickF (tmB rfl rfl) hg6_2 (tmB rfl rfl)) ?_
        refine wl_v (x_move (tmB rfl rfl)) ?_
        refine gs_wl (tm (t := 38) rfl) (fun hg6_10 => ?_) (fun hg6_10 => ?_)
        · have hg6_10' := hg6_10; (try simp only [nrm] at hg6_10')
          refine wl_s rfl (want_n rfl rfl rfl rfl (by rw [hg6_10]; rfl)) ?_
          refine wl_s rfl (want_n rfl rfl rfl rfl (by rw [hg6_10]; rfl)) ?_
          refine wl_s rfl (want_n rfl rfl rfl rfl (by rw [hg6_10]; rfl)) ?_
          refine wl_s rfl (want_n rfl rfl rfl rfl (by rw [hg6_10]; rfl)) ?_
          refine wl_s rfl (want_n rfl rfl rfl rfl (by rw [hg6_10]; rfl)) ?_
          refine wl_s rfl (want_n rfl rfl rfl rfl (by rw [hg6_10]; rfl)) ?_
          refine wl_s rfl (want_n rfl rfl rfl rfl (by rw [hg6_10]; rfl)) ?_
          refine wl_s rfl (want_n rfl rfl rfl rfl (by rw [hg6_10]; rfl)) ?_
          refine wl_v (x_pickT (tmB rfl rfl) hg6_10 ev_c) ?_
          refine wl_nil ?_
          refine then_n (hK11 _ _ ?_); clear hK11 K11
          refine cnd_t (tmB rfl rfl) rfl ?_
          refine wp_seq_k ?_; intro K13 hK13
          refine wlit ?_
          refine wl_v (x_assign (ev_cN 0)) ?_
          refine wl_v (x_assign ev_c) ?_
          refine wl_nil ?_
          refine then_n (hK13 _ _ ?_); clear hK13 K13
          refine wp_ret ?_
          refine then_r ?_
          refine inb_r ?_
          refine then_r ?_
          refine inb_r ?_
          refine then_r ?_
          refine ret2 rfl (.tmp rfl (show _ = Value.int _ _ from rfl)) (.tmp rfl (show _ = Value.bool _ from rfl)) ?_
          have hu := stampsL_eq l p
          have e1 : l.getD p 0 = nth l p := rfl
          have e2 : l.getD (p + 1) 0 = nth l (p + 1) := rfl
          refine ⟨?_, hS.kp⟩
          rw [hst]
          first
            | (rw [if_neg (by omega)] at hu
               rw [hu]; rfl)
            | (rw [if_pos ⟨by omega, by omega⟩, if_neg (by omega), if_pos (by omega)] at hu
               rw [hu]; rfl)
            | (rw [if_pos ⟨by omega, by omega⟩, if_neg (by omega), if_neg (by omega), if_pos (by omega)] at hu
               rw [hu, e2]
               split <;> simp [*])
        have hg6_10' := hg6_10; (try simp only [nrm] at hg6_10')
        refine wl_gv (want_y rfl rfl rfl rfl (by rw [hg6_10]; rfl)) (x_move (tmS rfl rfl)) ?_
        refine wl_gv (want_y rfl rfl rfl rfl (by rw [hg6_10]; rfl)) (x_move (tmI rfl rfl)) ?_
        refine wl_gv (want_y rfl rfl rfl rfl (by rw [hg6_10]; rfl)) (x_addN (tmI rfl rfl) (ev_cN 1) (fit_i64 (by omega))) ?_
        refine wl_gv (want_y rfl rfl rfl rfl (by rw [hg6_10]; rfl)) (x_ixs1 Try.underlying22 ts_5 (tmS rfl rfl) (tmI rfl rfl) (by omega)) ?_
        refine wl_gv (want_y rfl rfl rfl rfl (by rw [hg6_10]; rfl)) (x_load Try.underlying5 rfl (tmP rfl rfl) (cellV hS.ok 0 rfl (getm (by omega)))) ?_
        refine wl_gv (want_y rfl rfl rfl rfl (by rw [hg6_10]; rfl)) (x_convN Try.underlying5 Try.underlying3 (tmI rfl rfl) (fit_i64 (by omega))) ?_
        refine wl_gv (want_y rfl rfl rfl rfl (by rw [hg6_10]; rfl)) (x_move (tmI rfl rfl)) ?_
        refine wl_gv (want_y rfl rfl rfl rfl (by rw [hg6_10]; rfl)) (x_gtr (tmI rfl rfl) (tmI rfl rfl)) ?_
        refine wl_v (x_pickF (tmB rfl rfl) hg6_10 (tmB rfl rfl)) ?_
        refine wl_nil ?_
        refine then_n (hK11 _ _ ?_); clear hK11 K11
        refine cnd (tm rfl) (fun hc2 => ?_) (fun hc2 => ?_)
        · skip
          try simp only [nrm] at hc2
          refine wp_seq_k ?_; intro K14 hK14
          refine wlit ?_
          refine wl_v (x_assign (ev_cN 0)) ?_
          refine wl_v (x_assign ev_c) ?_
          refine wl_nil ?_
          refine then_n (hK14 _ _ ?_); clear hK14 K14
          refine wp_ret ?_
          refine then_r ?_
          refine inb_r ?_
          refine then_r ?_
          refine inb_r ?_
          refine then_r ?_
          refine ret2 rfl (.tmp rfl (show _ = Value.int _ _ from rfl)) (.tmp rfl (show _ = Value.bool _ from rfl)) ?_
          have hu := stampsL_eq l p
          have e1 : l.getD p 0 = nth l p := rfl
          have e2 : l.getD (p + 1) 0 = nth l (p + 1) := rfl
          refine ⟨?_, hS.kp⟩
          rw [hst]
          first
            | (rw [if_neg (by omega)] at hu
               rw [hu]; rfl)
            | (rw [if_pos ⟨by omega, by omega⟩, if_neg (by omega), if_pos (by omega)] at hu
               rw [hu]; rfl)
            | (rw [if_pos ⟨by omega, by omega⟩, if_neg (by omega), if_neg (by omega), if_pos (by omega)] at hu
               rw [hu, e2]
               split <;> simp [*])
        try simp only [nrm] at hc2
        refine wp_skip ?_
        refine then_n (hK10 _ _ ?_); clear hK10 K10
        refine wp_seq_k ?_; intro K15 hK15
        refine wp_seq_k ?_; intro K16 hK16
        refine wlit ?_
        refine wl_v (x_move (tmS rfl rfl)) ?_
        refine wl_v (x_move (tmI rfl rfl)) ?_
        refine wl_v (x_ixs1 Try.underlying22 ts_5 (tmS rfl rfl) (tmI rfl rfl) (by omega)) ?_
        refine wl_v (x_load Try.underlying5 rfl (tmP rfl rfl) (cellV hS.ok 0 rfl (getm (by omega)))) ?_
        refine wl_v (x_eql (tmI rfl rfl) (ev_cN 8)) ?_
        refine wl_nil ?_
        refine then_n (hK16 _ _ ?_); clear hK16 K16
        refine cnd (tm rfl) (fun hc3 => ?_) (fun hc3 => ?_)
        · skip
          try simp only [nrm] at hc3
          refine wp_seq_k ?_; intro K17 hK17
          refine wlit ?_
          refine wl_v (x_move (tmI rfl rfl)) ?_
          refine wl_v (x_move (tmS rfl rfl)) ?_
          refine wl_v (x_move (tmI rfl rfl)) ?_
          refine wl_v (x_addN (tmI rfl rfl) (ev_cN 1) (fit_i64 (by omega))) ?_
          refine wl_v (x_ixs1 Try.underlying22 ts_5 (tmS rfl rfl) (tmI rfl rfl) (by omega)) ?_
          refine wl_v (x_load Try.underlying5 rfl (tmP rfl rfl) (cellV hS.ok 0 rfl (getm (by omega)))) ?_
          refine wl_e rfl ?_; intro K hK
          refine ow_call Try.func46 rfl rfl (evs_cons (tmI rfl rfl) <| evs_cons (tmI rfl rfl) <| evs_nil) (stampsAt_c p _ _ (by omega)) ?_
          rintro e w ⟨rfl, hk⟩
          refine ⟨_, rfl, ?_⟩
          replace hS := hS.kept hk
          clear hk
          refine hK _ _ ?_; clear hK K
          refine wl_v (x_ext (tmT rfl rfl) rfl) ?_
          refine wl_v (x_ext (tmT rfl rfl) rfl) ?_
          refine wl_v (x_assign (tmI rfl rfl)) ?_
          refine wl_v (x_assign (tmB rfl rfl)) ?_
          refine wl_nil ?_
          refine then_n (hK17 _ _ ?_); clear hK17 K17
          refine wp_ret ?_
          refine then_r ?_
          refine inb_r ?_
          refine then_r ?_
          refine inb_r ?_
          refine then_r ?_
          refine ret2 rfl (.tmp rfl (show _ = Value.int _ _ from rfl)) (.tmp rfl (show _ = Value.bool _ from rfl)) ?_
          have hu := stampsL_eq l p
          have e1 : l.getD p 0 = nth l p := rfl
          have e2 : l.getD (p + 1) 0 = nth l (p + 1) := rfl
          refine ⟨?_, hS.kp⟩
          rw [hst]
          first
            | (rw [if_neg (by omega)] at hu
               rw [hu]; rfl)
            | (rw [if_pos ⟨by omega, by omega⟩, if_neg (by omega), if_pos (by omega)] at hu
               rw [hu]; rfl)
            | (rw [if_pos ⟨by omega, by omega⟩, if_neg (by omega), if_neg (by omega), if_pos (by omega)] at hu
               rw [hu, e2]
               split <;> simp [*])
        try simp only [nrm] at hc3
        have hx2 : stampsL l 0 = stampsL l (p + l.getD (p + 1) 0) := by rw [hst, hu, if_pos ⟨by omega, by omega⟩, if_neg (by omega), if_neg (by omega), if_neg (by omega)]; rfl
        refine wp_skip ?_
        refine then_n (hK15 _ _ ?_); clear hK15 K15
        refine wlit ?_
        refine wl_v (x_move (tmI rfl rfl)) ?_
        refine wl_v (x_move (tmS rfl rfl)) ?_
        refine wl_v (x_move (tmI rfl rfl)) ?_
        refine wl_v (x_addN (tmI rfl rfl) (ev_cN 1) (fit_i64 (by omega))) ?_
        refine wl_v (x_ixs1 Try.underlying22 ts_5 (tmS rfl rfl) (tmI rfl rfl) (by omega)) ?_
        refine wl_v (x_load Try.underlying5 rfl (tmP rfl rfl) (cellV hS.ok 0 rfl (getm (by omega)))) ?_
        refine wl_v (x_convN Try.underlying5 Try.underlying3 (tmI rfl rfl) (fit_i64 (by omega))) ?_
        refine wl_v (x_addN (tmI rfl rfl) (tmI rfl rfl) (fit_i64 (by omega))) ?_
        refine wl_v (x_assign (tmI rfl rfl)) ?_
        refine wl_nil ?_
        refine inb_n ?_
        exact then_n ⟨_, _, rfl, (by show _ < _; omega), (by repeat (first | exact agree_self | exact agree_refl | refine agree_upd rfl ?_ | refine agree_mix rfl ?_)), p + l.getD (p + 1) 0, rfl, (by first | rfl | go_num | exact congrArg (Value.int _) (by first | omega | (simp; done) | (simp; omega))), hS, (by omega), (by first | rfl | exact hx1 | exact hx2)⟩
      try simp only [nrm] at hc0
      refine wp_exit ?_
      refine then_x ?_; clear hK4 K4
      refine then_x ?_
      refine inb_x ?_
      refine then_n (hK2 _ _ ?_); clear hK2 K2
      refine wp_seq_k ?_; intro K18 hK18
      refine wlit ?_
      refine wl_v (x_assign (ev_cN 0)) ?_
      refine wl_v (x_assign ev_c) ?_
      refine wl_nil ?_
      refine then_n (hK18 _ _ ?_); clear hK18 K18
      refine wp_ret ?_
      refine ret2 rfl (.tmp rfl (show _ = Value.int _ _ from rfl)) (.tmp rfl (show _ = Value.bool _ from rfl)) ?_
      have hu := stampsL_eq l p
      have e1 : l.getD p 0 = nth l p := rfl
      have e2 : l.getD (p + 1) 0 = nth l (p + 1) := rfl
      refine ⟨?_, hS.kp⟩
      rw [hst]
      first
        | (rw [if_neg (by omega)] at hu
           rw [hu]; rfl)
        | (rw [if_pos ⟨by omega, by omega⟩, if_neg (by omega), if_pos (by omega)] at hu
           rw [hu]; rfl)
        | (rw [if_pos ⟨by omega, by omega⟩, if_neg (by omega), if_neg (by omega), if_pos (by omega)] at hu
           rw [hu, e2]
           split <;> simp [*])
    have hg2_4' := hg2_4; (try simp only [nrm] at hg2_4')
    refine wl_s rfl (want_n rfl rfl rfl rfl (by rw [hg2_4]; rfl)) ?_
    refine wl_s rfl (want_n rfl rfl rfl rfl (by rw [hg2_4]; rfl)) ?_
    refine wl_s rfl (want_n rfl rfl rfl rfl (by rw [hg2_4]; rfl)) ?_
    refine wl_s rfl (want_n rfl rfl rfl rfl (by rw [hg2_4]; rfl)) ?_
    refine wl_s rfl (want_n rfl rfl rfl rfl (by rw [hg2_4]; rfl)) ?_
    refine wl_v (x_pickF (tmB rfl rfl) hg2_4 ev_c) ?_
    refine wl_nil ?_
    refine then_n (hK5 _ _ ?_); clear hK5 K5
    refine cnd_f (tmB rfl rfl) rfl ?_
    refine wp_exit ?_
    refine then_x ?_; clear hK4 K4
    refine then_x ?_
    refine inb_x ?_
    refine then_n (hK2 _ _ ?_); clear hK2 K2
    refine wp_seq_k ?_; intro K19 hK19
    refine wlit ?_
    refine wl_v (x_assign (ev_cN 0)) ?_
    refine wl_v (x_assign ev_c) ?_
    refine wl_nil ?_
    refine then_n (hK19 _ _ ?_); clear hK19 K19
    refine wp_ret ?_
    refine ret2 rfl (.tmp rfl (show _ = Value.int _ _ from rfl)) (.tmp rfl (show _ = Value.bool _ from rfl)) ?_
    have hu := stampsL_eq l p
    have e1 : l.getD p 0 = nth l p := rfl
    have e2 : l.getD (p + 1) 0 = nth l (p + 1) := rfl
    refine ⟨?_, hS.kp⟩
    rw [hst]
    first
      | (rw [if_neg (by omega)] at hu
         rw [hu]; rfl)
      | (rw [if_pos ⟨by omega, by omega⟩, if_neg (by omega), if_pos (by omega)] at hu
         rw [hu]; rfl)
      | (rw [if_pos ⟨by omega, by omega⟩, if_neg (by omega), if_neg (by omega), if_pos (by omega)] at hu
         rw [hu, e2]
         split <;> simp [*])

end Go.Proofs.Ytcobjneobdihkaa
/- tcp: header, Right, Bytes and the references', by contract. Conditions: none but bounds. -/
namespace Go.Proofs.Ytcobjneobdihkaa
open Go.RowKit

def segRight (m k : Nat) : Prop := m ≤ 40 ∧ m % 4 = 0 ∧ 20 + m + k ≤ 65535
instance (m k : Nat) : Decidable (segRight m k) := by unfold segRight; exact inferInstance

end Go.Proofs.Ytcobjneobdihkaa
/- Packets put together and taken apart, both sides at once. Conditions: none but bounds. -/
namespace Go.Proofs.Ytcobjneobdihkaa
open Go.RowKit
theorem adLim6 {l : List Nat} (hb : Bytes l) (p : Nat) : adLim (ad6 l p) := by
  have h1 := getN_lt ((hb.drop p).take 16) 0 8
  have h2 := getN_lt ((hb.drop p).take 16) 8 8
  constructor
  · show getN ((l.drop p).take 16) 0 8 ≤ _
    omega
  · show getN ((l.drop p).take 16) 8 8 ≤ _
    omega
theorem first4 {l : List Nat} (h : 4 ≤ l.length) : getN l 0 4 = ((nth l 0 * 256 + nth l 1) * 256 + nth l 2) * 256 + nth l 3 ∧ getN l 2 2 = nth l 2 * 256 + nth l 3 := by
  have h1 := getN_split l 0 1 3 (by omega)
  have h2 := getN_split l 1 1 2 (by omega)
  have h3 := getN_split l 2 1 1 (by omega)
  rw [getN_one (by omega)] at h1 h2 h3
  rw [getN_one (by omega)] at h3
  have e1 : getN l 0 4 = nth l 0 * 256 ^ 3 + getN l 1 3 := h1
  have e2 : getN l 1 3 = nth l 1 * 256 ^ 2 + getN l 2 2 := h2
  have e3 : getN l 2 2 = nth l 2 * 256 ^ 1 + nth l 3 := h3
  omega
end Go.Proofs.Ytcobjneobdihkaa
/- icmp: TooBig, Bytes, and the references' TooBig and Same, by contract. Conditions: none but bounds. -/
namespace Go.Proofs.Ytcobjneobdihkaa
open Go.RowKit

def msgV (ty code sum word : Nat) (A : Option Addr) (n c : Nat) : List Value := [.int .u8 (ty : Int), .int .u8 (code : Int), .int .u16 (sum : Int), .int .u32 (word : Int), .slice A n c]
def icmpB (ty code sum word : Nat) (l : List Nat) : List Nat := [] ++ be ty 1 ++ be code 1 ++ be sum 2 ++ be word 4 ++ l

set_option maxRecDepth 100000 in
set_option maxHeartbeats 4000000 in
theorem icmp_bytes_c (ty code sum word : Nat) (A : Option Addr) (n c : Nat) (l : List Nat) (w0 : World) (hv : View w0 w0.heap.size A (l.map u8v)) (hl : l.length = n) (hn4 : n ≤ 900000) (h1 : ty ≤ 255) (h2 : code ≤ 255) (h3 : sum ≤ 65535) (h4 : word ≤ 4294967295) :
    Calls Try.prog 87 #[.agg (msgV ty code sum word A n c).toArray] w0 fun e w' => ∃ A' m c', m = 8 + n ∧ e = .returned (.slice A' m c') ∧ New w0 w' (.row (.slice A' m c') 5 1 m ((icmpB ty code sum word l).map u8v)) ∧ Kp [] w0 w' := by
  have hS := (St.sv w0).vcons rfl hv
  refine ent (n := 27) Try.func87 rfl rfl ?_
  refine wp_seq_k ?_; intro K1 hK1
  refine wlit ?_
  refine wl_e rfl ?_; intro K hK
  refine ow_box hS (tmA rfl rfl) rfl ?_
  clear hS; intro g0_0 w hg0_0 hS
  refine hK _ _ ?_; clear hK K
  refine wl_v (x_assign ev_c) ?_
  refine wl_nil ?_
  refine then_n (hK1 _ _ ?_); clear hK1 K1
  refine wp_seq_k ?_; intro K2 hK2
  refine wlit ?_
  refine wl_v (x_fa 0 Try.underlying51 rfl rfl ts_5 (tmP rfl rfl)) ?_
  refine wl_v (x_load Try.underlying5 rfl (tmP rfl rfl) (cellB hS.ok 0 rfl rfl)) ?_
  refine wl_v (x_convN Try.underlying5 Try.underlying24 (tmI rfl rfl) (fit_u64 (by omega))) ?_
  refine wl_e rfl ?_; intro K hK
  refine ow_call Try.func48 rfl rfl (evs_cons ev_c <| evs_cons (tmI rfl rfl) <| evs_cons (ev_cN 1) <| evs_nil) (put_c 0 none 0 [] ty 1 _ View.nil_ rfl (by omega) (by omega) (by omega)) ?_
  rintro e w ⟨g1, rfl, hn, hk⟩
  refine ⟨_, rfl, ?_⟩
  replace hS := hS.add hk hn -- +1
  clear hn hk
  refine hK _ _ ?_; clear hK K
  refine wl_v (x_assign (tmS rfl rfl)) ?_
  refine wl_nil ?_
  refine then_n (hK2 _ _ ?_); clear hK2 K2
  refine wp_seq_k ?_; intro K3 hK3
  refine wlit ?_
  refine wl_v (x_move (tmS rfl rfl)) ?_
  refine wl_v (x_fa 1 Try.underlying51 rfl rfl ts_5 (tmP rfl rfl)) ?_
  refine wl_v (x_load Try.underlying5 rfl (tmP rfl rfl) (cellB hS.ok 1 rfl rfl)) ?_
  refine wl_v (x_convN Try.underlying5 Try.underlying24 (tmI rfl rfl) (fit_u64 (by omega))) ?_
  refine wl_e rfl ?_; intro K hK
  refine ow_call Try.func48 rfl rfl (evs_cons (tmS rfl rfl) <| evs_cons (tmI rfl rfl) <| evs_cons (ev_cN 1) <| evs_nil) (put_c _ _ _ _ code 1 _ (viewR hS.ok 0 rfl) (by simp [be_length]) (by omega) (by omega) (by omega)) ?_
  rintro e w ⟨g2, rfl, hn, hk⟩
  refine ⟨_, rfl, ?_⟩
  replace hS := (hS.add hk hn).pick [0, 2, 3] rfl rfl
  clear hn hk
  try replace hS := St.nm (M' := [_, .blk _ _ [_, _, _, _, _], .vw _ _]) hS rfl
  refine hK _ _ ?_; clear hK K
  refine wl_v (x_assign (tmS rfl rfl)) ?_
  refine wl_nil ?_
  refine then_n (hK3 _ _ ?_); clear hK3 K3
  refine wp_seq_k ?_; intro K4 hK4
  refine wlit ?_
  refine wl_v (x_move (tmS rfl rfl)) ?_
  refine wl_v (x_fa 2 Try.underlying51 rfl rfl ts_27 (tmP rfl rfl)) ?_
  refine wl_v (x_load Try.underlying27 rfl (tmP rfl rfl) (cellB hS.ok 1 rfl rfl)) ?_
  refine wl_v (x_convN Try.underlying27 Try.underlying24 (tmI rfl rfl) (fit_u64 (by omega))) ?_
  refine wl_e rfl ?_; intro K hK
  refine ow_call Try.func48 rfl rfl (evs_cons (tmS rfl rfl) <| evs_cons (tmI rfl rfl) <| evs_cons (ev_cN 2) <| evs_nil) (put_c _ _ _ _ sum 2 _ (viewR hS.ok 0 rfl) (by simp [be_length]) (by omega) (by omega) (by omega)) ?_
  rintro e w ⟨g3, rfl, hn, hk⟩
  refine ⟨_, rfl, ?_⟩
  replace hS := (hS.add hk hn).pick [0, 2, 3] rfl rfl
  clear hn hk
  try replace hS := St.nm (M' := [_, .blk _ _ [_, _, _, _, _], .vw _ _]) hS rfl
  refine hK _ _ ?_; clear hK K
  refine wl_v (x_assign (tmS rfl rfl)) ?_
  refine wl_nil ?_
  refine then_n (hK4 _ _ ?_); clear hK4 K4
  refine wp_seq_k ?_; intro K5 hK5
  refine wlit ?_
  refine wl_v (x_move (tmS rfl rfl)) ?_
  refine wl_v (x_fa 3 Try.underlying51 rfl rfl ts_30 (tmP rfl rfl)) ?_
  refine wl_v (x_load Try.underlying30 rfl (tmP rfl rfl) (cellB hS.ok 1 rfl rfl)) ?_
  refine wl_v (x_convN Try.underlying30 Try.underlying24 (tmI rfl rfl) (fit_u64 (by omega))) ?_
  refine wl_e rfl ?_; intro K hK
  refine ow_call Try.func48 rfl rfl (evs_cons (tmS rfl rfl) <| evs_cons (tmI rfl rfl) <| evs_cons (ev_cN 4) <| evs_nil) (put_c _ _ _ _ word 4 _ (viewR hS.ok 0 rfl) (by simp [be_length]) (by omega) (by omega) (by omega)) ?_
  rintro e w ⟨g4, rfl, hn, hk⟩
  refine ⟨_, rfl, ?_⟩
  replace hS := (hS.add hk hn).pick [0, 2, 3] rfl rfl
  clear hn hk
  try replace hS := St.nm (M' := [_, .blk _ _ [_, _, _, _, _], .vw _ _]) hS rfl
  refine hK _ _ ?_; clear hK K
  refine wl_v (x_assign (tmS rfl rfl)) ?_
  refine wl_nil ?_
  refine then_n (hK5 _ _ ?_); clear hK5 K5
  refine wp_seq_k ?_; intro K6 hK6
  refine wlit ?_
  refine wl_v (x_move (tmS rfl rfl)) ?_
  refine wl_v (x_fa 4 Try.underlying51 rfl rfl ts_22 (tmP rfl rfl)) ?_
  refine wl_v (x_load Try.underlying22 rfl (tmP rfl rfl) (cellB hS.ok 1 rfl rfl)) ?_
  refine wl_e rfl ?_; intro K hK
  refine ow_appendV hS 0 rfl (viewV hS.ok 2 rfl) Try.underlying22 tz_5 rfl (tmS rfl rfl) (tmS rfl rfl) (by first | exact u8v_one _ | (intro u hu; simp at hu; first | (rcases hu with rfl | rfl <;> rfl) | (obtain ⟨_, _, rfl⟩ := hu; rfl))) ⟨by decide, by first | rfl | (simp; done) | (simp; omega)⟩ (by simp only [maxLen]; omega) (by omega) ?_; clear hS; intro g5_3 cg5_3 w hAg5_3 hCg5_3 hS
  refine hK _ _ ?_; clear hK K
  refine wl_v (x_assign (tmS rfl rfl)) ?_
  refine wl_nil ?_
  rw [← List.map_append] at hS
  refine then_n (hK6 _ _ ?_); clear hK6 K6
  refine wp_ret ?_
  refine ret1 rfl (.tmp rfl (show _ = Value.slice _ _ _ from rfl)) ?_
  exact ⟨_, _, _, by omega, rfl, hS.new 0 rfl rfl, hS.kp⟩

end Go.Proofs.Ytcobjneobdihkaa
/- icmp: Parse and the reference's Parse, by contract. Conditions: none but bounds. -/
namespace Go.Proofs.Ytcobjneobdihkaa
open Go.RowKit

set_option maxRecDepth 100000 in
set_option maxHeartbeats 4000000 in
theorem icmp_parse_c (n : Nat) (A : Option Addr) (c : Nat) (l : List Nat) (w0 : World) (hv : View w0 w0.heap.size A (l.map u8v)) (hl : l.length = n) (hb : Bytes l) (hn4 : n ≤ 1000000) (h8 : 8 ≤ n) :
    Calls Try.prog 81 #[.slice A n c] w0 fun e w' => ∃ A', e = .returned (.tuple #[.agg (msgV (getN l 0 1) (getN l 1 1) (getN l 2 2) (getN l 4 4) A' (n - 8) (n - 8)).toArray, .int .i64 0]) ∧ NewV w0 w' A' ((l.drop 8).map u8v) ∧ Kp [] w0 w' := by
  have hS := (St.sv w0).vcons rfl hv
  refine ent (n := 25) Try.func81 rfl rfl ?_
  refine wp_seq_k ?_; intro K1 hK1
  refine wlit ?_
  refine wl_e rfl ?_; intro K hK
  refine ow_alloc hS tz_51 rfl ?_
  clear hS; intro g0_0 w hg0_0 hS
  refine hK _ _ ?_; clear hK K
  refine wl_v (x_assign (ev_cN 0)) ?_
  refine wl_nil ?_
  refine then_n (hK1 _ _ ?_); clear hK1 K1
  refine wp_seq_k ?_; intro K2 hK2
  refine wp_seq_k ?_; intro K3 hK3
  refine wlit ?_
  refine wl_v (x_move (tmS rfl rfl)) ?_
  refine wl_v (x_len Try.underlying22 (tmS rfl rfl)) ?_
  refine wl_v (x_lss (tmI rfl rfl) (ev_cN 8)) ?_
  refine wl_nil ?_
  refine then_n (hK3 _ _ ?_); clear hK3 K3
  refine cnd (tm rfl) (fun hc0 => ?_) (fun hc0 => ?_)
  · exfalso
    simp at hc0
    omega
  try simp only [nrm] at hc0
  refine wp_skip ?_
  refine then_n (hK2 _ _ ?_); clear hK2 K2
  refine wp_seq_k ?_; intro K4 hK4
  refine wlit ?_
  refine wl_v (x_move (tmS rfl rfl)) ?_
  refine wl_e rfl ?_; intro K hK
  refine ow_call Try.func14 rfl rfl (evs_cons (tmS rfl rfl) <| evs_nil) (read_c n A c l _ (viewV hS.ok 1 rfl) hl hn4) ?_
  rintro e w ⟨gr, A0, rfl, hS2⟩
  refine ⟨_, rfl, ?_⟩
  replace hS := hS.leave [] [0, 1] rfl rfl rfl hS2 rfl -- +2
  clear hS2
  have hA : Off A0 0 n A0 := off_zero
  have hcp : n - 0 ≤ n := by omega
  try replace hS := St.nm (M' := [_, _, .blk _ _ [_, _, _, _, _], .vw _ _]) hS rfl
  refine hK _ _ ?_; clear hK K
  refine wl_v (x_assign (tmP rfl rfl)) ?_
  refine wl_nil ?_
  refine then_n (hK4 _ _ ?_); clear hK4 K4
  refine wp_seq_k ?_; intro K5 hK5
  refine wlit ?_
  refine wl_v (x_move (tmP rfl rfl)) ?_
  refine wl_e rfl ?_; intro K hK
  refine ow_call Try.func30 rfl rfl (evs_cons (tmP rfl rfl) <| evs_nil) (byte_c gr A0 _ _ n _ l false _ _ (hS.enter [0] [1] rfl rfl) hA (by omega) hcp hl hb) ?_
  rintro e w ⟨A1, c1, rfl, hS2, hA, hcp⟩
  refine ⟨_, rfl, ?_⟩
  replace hS := hS.leave [0] [1, 2, 3] rfl rfl rfl hS2 rfl
  clear hS2
  try replace hS := St.nm (M' := [_, _, .blk _ _ [_, _, _, _, _], .vw _ _]) hS rfl
  refine hK _ _ ?_; clear hK K
  refine wl_v (x_move (tmP rfl rfl)) ?_
  refine wl_e rfl ?_; intro K hK
  refine ow_call Try.func30 rfl rfl (evs_cons (tmP rfl rfl) <| evs_nil) (byte_c gr A0 _ _ n _ l false _ _ (hS.enter [0] [1] rfl rfl) hA (by omega) hcp hl hb) ?_
  rintro e w ⟨A1, c1, rfl, hS2, hA, hcp⟩
  refine ⟨_, rfl, ?_⟩
  replace hS := hS.leave [0] [1, 2, 3] rfl rfl rfl hS2 rfl
  clear hS2
  try replace hS := St.nm (M' := [_, _, .blk _ _ [_, _, _, _, _], .vw _ _]) hS rfl
  refine hK _ _ ?_; clear hK K
  refine wl_v (x_move (tmP rfl rfl)) ?_
  refine wl_e rfl ?_; intro K hK
  refine ow_call Try.func15 rfl rfl (evs_cons (tmP rfl rfl) <| evs_nil) (word_c gr A0 _ _ n _ l false _ _ (hS.enter [0] [1] rfl rfl) hA (by omega) hcp hl hb) ?_
  rintro e w ⟨A1, c1, rfl, hS2, hA, hcp⟩
  refine ⟨_, rfl, ?_⟩
  replace hS := hS.leave [0] [1, 2, 3] rfl rfl rfl hS2 rfl
  clear hS2
  try replace hS := St.nm (M' := [_, _, .blk _ _ [_, _, _, _, _], .vw _ _]) hS rfl
  refine hK _ _ ?_; clear hK K
  refine wl_v (x_move (tmP rfl rfl)) ?_
  refine wl_e rfl ?_; intro K hK
  refine ow_call Try.func25 rfl rfl (evs_cons (tmP rfl rfl) <| evs_nil) (long_c gr A0 _ _ n _ l false _ _ (hS.enter [0] [1] rfl rfl) hA (by omega) hcp hl hb) ?_
  rintro e w ⟨A1, c1, rfl, hS2, hA, hcp⟩
  refine ⟨_, rfl, ?_⟩
  replace hS := hS.leave [0] [1, 2, 3] rfl rfl rfl hS2 rfl
  clear hS2
  try replace hS := St.nm (M' := [_, _, .blk _ _ [_, _, _, _, _], .vw _ _]) hS rfl
  refine hK _ _ ?_; clear hK K
  refine wl_v (x_build (bc_take (tmI rfl rfl) <| bc_take (tmI rfl rfl) <| bc_take (tmI rfl rfl) <| bc_take (tmI rfl rfl) <| bc_skip (.slice none 0 0) <| bc_nil) (by kernel_rfl)) ?_
  refine wl_e rfl ?_; intro K hK
  refine ow_alloc hS tz_51 rfl ?_
  clear hS; intro g4_9 w hg4_9 hS
  refine hK _ _ ?_; clear hK K
  refine wl_e rfl ?_; intro K hK
  refine ow_storeA hS 0 rfl ts_51 (tmP rfl rfl) (tmA rfl rfl) rfl rfl rfl ?_
  clear hS; intro w hS
  try replace hS := St.nm (M' := [.blk _ _ [_, _, _, _, _], _, _, .blk _ _ [_, _, _, _, _], .vw _ _]) hS rfl
  refine hK _ _ ?_; clear hK K
  refine wl_nil ?_
  refine then_n (hK5 _ _ ?_); clear hK5 K5
  refine wp_seq_k ?_; intro K6 hK6
  have hdr : ((l.drop (0 + 1 + 1 + 2 + 4)).take n).map u8v = (l.drop 8).map u8v := by rw [List.take_of_length_le (by rw [List.length_drop]; omega)]
  refine wlit ?_
  refine wl_v (x_move (tmP rfl rfl)) ?_
  refine wl_e rfl ?_; intro K hK
  refine ow_call Try.func55 rfl rfl (evs_cons (tmP rfl rfl) <| evs_nil) (rest_c gr A0 A1 (0 + 1 + 1 + 2 + 4) n c1 l false _ _ (hS.enter [1] [2] rfl rfl) hA (by omega) hcp) ?_
  rintro e w ⟨A2, c2, rfl, hS2⟩
  refine ⟨_, rfl, ?_⟩
  replace hS := (hS.leave [1] [0, 2, 3, 4] rfl rfl rfl hS2 rfl).pick [1, 0, 2, 3, 4] rfl rfl
  clear hS2
  try replace hS := St.nm (M' := [.blk _ _ [_, _, _, _, _], _, _, .blk _ _ [_, _, _, _, _], .vw _ _]) hS rfl
  refine hK _ _ ?_; clear hK K
  refine wl_v (x_fa 4 Try.underlying51 rfl rfl ts_22 (tmP rfl rfl)) ?_
  refine wl_e rfl ?_; intro K hK
  refine ow_store hS 0 rfl ts_22 (tmP rfl rfl) (tmS rfl rfl) rfl rfl ?_
  clear hS; intro w hS
  try replace hS := St.nm (M' := [.blk _ _ [_, _, _, _, _], _, _, .blk _ _ [_, _, _, _, _], .vw _ _]) hS rfl
  refine hK _ _ ?_; clear hK K
  refine wl_nil ?_
  refine then_n (hK6 _ _ ?_); clear hK6 K6
  refine wp_seq_k ?_; intro K7 hK7
  refine wlit ?_
  refine wl_v (x_loadA (cs := [_, _, _, _, _]) Try.underlying51 rfl ts_51 (tmP rfl rfl) (rangeB hS.ok 0 rfl rfl)) ?_
  refine wl_e rfl ?_; intro K hK
  refine ow_storeA hS 3 rfl ts_51 (tmP rfl rfl) (tmA rfl rfl) rfl rfl rfl ?_
  clear hS; intro w hS
  try replace hS := St.nm (M' := [.blk _ _ [_, _, _, _, _], _, _, .blk _ _ [_, _, _, _, _], .vw _ _]) hS rfl
  refine hK _ _ ?_; clear hK K
  refine wl_v (x_assign (ev_cN 0)) ?_
  refine wl_nil ?_
  refine then_n (hK7 _ _ ?_); clear hK7 K7
  refine wp_ret ?_
  refine ret2 rfl (.cell rfl rfl (load_rowB (cs := [_, _, _, _, _]) hS.ok 3 rfl Try.underlying51 rfl ts_51 rfl)) (.tmp rfl (show _ = Value.int _ _ from rfl)) ?_
  refine ⟨A1, rfl, ?_, hS.kp⟩
  rw [← hdr]
  exact NewV.offb (hS.newv 2 rfl) hl hA n

set_option maxRecDepth 100000 in
set_option maxHeartbeats 4000000 in
theorem icmp_parse_short (n : Nat) (A : Option Addr) (c : Nat) (w0 : World) (h8 : n < 8) :
    Calls Try.prog 81 #[.slice A n c] w0 fun e w' => e = .returned (.tuple #[.agg (msgV 0 0 0 0 none 0 0).toArray, .int .i64 20]) ∧ Kp [] w0 w' := by
  have hS := St.sv w0
  refine ent (n := 25) Try.func81 rfl rfl ?_
  refine wp_seq_k ?_; intro K1 hK1
  refine wlit ?_
  refine wl_e rfl ?_; intro K hK
  refine ow_alloc hS tz_51 rfl ?_
  clear hS; intro g0_0 w hg0_0 hS
  refine hK _ _ ?_; clear hK K
  refine wl_v (x_assign (ev_cN 0)) ?_
  refine wl_nil ?_
  refine then_n (hK1 _ _ ?_); clear hK1 K1
  refine wp_seq_k ?_; intro K2 hK2
  refine wp_seq_k ?_; intro K3 hK3
  refine wlit ?_
  refine wl_v (x_move (tmS rfl rfl)) ?_
  refine wl_v (x_len Try.underlying22 (tmS rfl rfl)) ?_
  refine wl_v (x_lss (tmI rfl rfl) (ev_cN 8)) ?_
  refine wl_nil ?_
  refine then_n (hK3 _ _ ?_); clear hK3 K3
  refine cnds (tm rfl) (fun hc0 => ?_) (fun hc0 => ?_)
  · exfalso
    simp at hc0
    omega
  try simp only [nrm] at hc0
  refine wp_seq_k ?_; intro K4 hK4
  refine wlit ?_
  refine wl_v (x_build (bc_skip (.int .u8 0) <| bc_skip (.int .u8 0) <| bc_skip (.int .u16 0) <| bc_skip (.int .u32 0) <| bc_skip (.slice none 0 0) <| bc_nil) (by kernel_rfl)) ?_
  refine wl_e rfl ?_; intro K hK
  refine ow_storeA hS 0 rfl ts_51 (tmP rfl rfl) (tmA rfl rfl) rfl rfl rfl ?_
  clear hS; intro w hS
  try replace hS := St.nm (M' := [.blk _ _ [_, _, _, _, _], _]) hS rfl
  refine hK _ _ ?_; clear hK K
  refine wl_v (x_assign (ev_cN 20)) ?_
  refine wl_nil ?_
  refine then_n (hK4 _ _ ?_); clear hK4 K4
  refine wp_ret ?_
  refine then_r ?_
  refine ret2 rfl (.cell rfl rfl (load_rowB (cs := [_, _, _, _, _]) hS.ok 0 rfl Try.underlying51 rfl ts_51 rfl)) (.tmp rfl (show _ = Value.int _ _ from rfl)) ?_
  exact ⟨rfl, hS.kp⟩

set_option maxRecDepth 100000 in
set_option maxHeartbeats 4000000 in
theorem ricmp_parse_c (n : Nat) (A : Option Addr) (c : Nat) (l : List Nat) (w0 : World) (hv : View w0 w0.heap.size A (l.map u8v)) (hl : l.length = n) (hc : n ≤ c) (hb : Bytes l) (hn4 : n ≤ 1000000) (h8 : 8 ≤ n) :
    Calls Try.prog 42 #[.slice A n c] w0 fun e w' => ∃ A' c', e = .returned (.tuple #[.agg (msgV (getN l 0 1) (getN l 1 1) (getN l 2 2) (getN l 4 4) A' (n - 8) c').toArray, .bool true]) ∧ NewV w0 w' A' ((l.drop 8).map u8v) ∧ Kp [] w0 w' := by
  have hS := (St.sv w0).vcons rfl hv
  obtain ⟨b4, o4, rfl⟩ := view_some hv (by rw [List.length_map]; omega)
  have h2 := getN_lt hb 2 2
  have h4 := getN_lt hb 4 4
  refine ent (n := 25) Try.func42 rfl rfl ?_
  refine wp_seq_k ?_; intro K1 hK1
  refine wlit ?_
  refine wl_e rfl ?_; intro K hK
  refine ow_alloc hS tz_44 rfl ?_
  clear hS; intro g0_0 w hg0_0 hS
  refine hK _ _ ?_; clear hK K
  refine wl_v (x_assign ev_c) ?_
  refine wl_nil ?_
  refine then_n (hK1 _ _ ?_); clear hK1 K1
  refine wp_seq_k ?_; intro K2 hK2
  refine wp_seq_k ?_; intro K3 hK3
  refine wlit ?_
  refine wl_v (x_move (tmS rfl rfl)) ?_
  refine wl_v (x_len Try.underlying22 (tmS rfl rfl)) ?_
  refine wl_v (x_lss (tmI rfl rfl) (ev_cN 8)) ?_
  refine wl_nil ?_
  refine then_n (hK3 _ _ ?_); clear hK3 K3
  refine cnd (tm rfl) (fun hc0 => ?_) (fun hc0 => ?_)
  · exfalso
    simp at hc0
    omega
  try simp only [nrm] at hc0
  refine wp_skip ?_
  refine then_n (hK2 _ _ ?_); clear hK2 K2
  refine wp_seq_k ?_; intro K4 hK4
  replace hS := (hS.dropb 1 8 rfl (by omega : l.length ≤ c)).pick [1, 0, 2] rfl rfl
  try replace hS := St.nm (M' := [.blk _ _ [_, _, _, _, _], .vw _ _, .vw _ _]) hS rfl
  refine rg_startk 1 hS mixed_ ?_
  clear hS; intro w hS
  refine rg_take 0 rfl rfl (by kernel_rfl) (by kernel_rfl) (by kernel_rfl) (want_0) (fun w hok => x_move (tmS rfl rfl)) ?_
  refine rg_take 1 rfl rfl (by kernel_rfl) (by kernel_rfl) (by kernel_rfl) (want_0) (fun w hok => x_ixs1 Try.underlying22 ts_5 (tmS rfl rfl) (ev_cN 0) (by omega)) ?_
  refine rg_take 2 rfl rfl (by kernel_rfl) (by kernel_rfl) (by kernel_rfl) (want_0) (fun w hok => x_load Try.underlying5 rfl (tmP rfl rfl) (cellV hok 1 rfl (getm (by omega)))) ?_
  refine rg_take 3 rfl rfl (by kernel_rfl) (by kernel_rfl) (by kernel_rfl) (want_0) (fun w hok => x_move (tmS rfl rfl)) ?_
  refine rg_take 4 rfl rfl (by kernel_rfl) (by kernel_rfl) (by kernel_rfl) (want_0) (fun w hok => x_ixs1 Try.underlying22 ts_5 (tmS rfl rfl) (ev_cN 1) (by omega)) ?_
  refine rg_take 5 rfl rfl (by kernel_rfl) (by kernel_rfl) (by kernel_rfl) (want_0) (fun w hok => x_load Try.underlying5 rfl (tmP rfl rfl) (cellV hok 1 rfl (getm (by omega)))) ?_
  refine rg_take 6 rfl rfl (by kernel_rfl) (by kernel_rfl) (by kernel_rfl) (want_0) (fun w hok => x_move (tmS rfl rfl)) ?_
  refine rg_take 9 rfl rfl (by kernel_rfl) (by kernel_rfl) (by kernel_rfl) (want_0) (fun w hok => x_move (tmS rfl rfl)) ?_
  refine rg_take 13 rfl rfl (by kernel_rfl) (by kernel_rfl) (by kernel_rfl) (want_0) (fun w hok => x_move (tmS rfl rfl)) ?_
  refine rg_take 14 rfl rfl (by kernel_rfl) (by kernel_rfl) (by kernel_rfl) (want_0) (fun w hok => x_sliceL Try.underlying22 ts_5 (tmS rfl rfl) (ev_cN 8) (by omega)) ?_
  refine rg_step2 7 12 rfl rfl (by kernel_rfl) (want_0) (want_0) (oks_drop hS 1 rfl) ?_ ?_
  · intro K hK
    refine ow_call Try.func17 rfl rfl (evs_cons (tmS rfl rfl) <| evs_cons (ev_cN 2) <| evs_cons (ev_cN 2) <| evs_nil) (get_c n _ c l 2 2 _ (by first | exact viewV hS.ok 2 rfl | exact viewV hS.ok 3 rfl) hl hc hn4 hb (by omega) (by omega)) ?_
    rintro e w ⟨rfl, hk⟩
    refine ⟨_, rfl, ?_⟩
    replace hS := hS.kept hk
    clear hk
    refine hK _ _ ?_; clear hK K
    refine rg_take 8 rfl rfl (by kernel_rfl) (by kernel_rfl) (by kernel_rfl) (want_0) (fun w hok => x_convN Try.underlying24 Try.underlying27 (tmI rfl rfl) (fit_u16 (by omega))) ?_
    refine rg_step2 10 12 rfl rfl (by kernel_rfl) (want_0) (want_0) (oks_drop hS 1 rfl) ?_ ?_
    · intro K hK
      refine ow_call Try.func17 rfl rfl (evs_cons (tmS rfl rfl) <| evs_cons (ev_cN 4) <| evs_cons (ev_cN 4) <| evs_nil) (get_c n _ c l 4 4 _ (by first | exact viewV hS.ok 2 rfl | exact viewV hS.ok 3 rfl) hl hc hn4 hb (by omega) (by omega)) ?_
      rintro e w ⟨rfl, hk⟩
      refine ⟨_, rfl, ?_⟩
      replace hS := hS.kept hk
      clear hk
      refine hK _ _ ?_; clear hK K
      refine rg_take 11 rfl rfl (by kernel_rfl) (by kernel_rfl) (by kernel_rfl) (want_0) (fun w hok => x_convN Try.underlying24 Try.underlying30 (tmI rfl rfl) (fit_u32 (by omega))) ?_
      refine rg_step 12 rfl (by kernel_rfl) (want_0) (oks_drop hS 1 rfl) ?_; intro K hK
      refine ow_build0 hS Try.underlying22 tz_5 rfl rfl ?_
      clear hS; intro g3_12 w hg3_12 hS
      refine hK _ _ ?_; clear hK K
      refine rg_step 15 rfl (by kernel_rfl) (want_0) (oks_drop hS 2 rfl) ?_; intro K hK
      refine ow_appendV hS 0 rfl (viewV hS.ok 2 rfl) Try.underlying22 tz_5 rfl (tmS rfl rfl) (tmS rfl rfl) (by first | exact u8v_one _ | (intro u hu; simp at hu; first | (rcases hu with rfl | rfl <;> rfl) | (obtain ⟨_, _, rfl⟩ := hu; rfl))) ⟨by decide, by first | rfl | (simp; done) | (simp; omega)⟩ (by simp only [maxLen]; omega) (by omega) ?_; clear hS; intro g3_15 cg3_15 w hAg3_15 hCg3_15 hS
      refine hK _ _ ?_; clear hK K
      refine rg_take 16 rfl rfl (by kernel_rfl) (by kernel_rfl) (by kernel_rfl) (want_0) (fun w hok => x_build (bc_take (tmI rfl rfl) <| bc_take (tmI rfl rfl) <| bc_take (tmI rfl rfl) <| bc_take (tmI rfl rfl) <| bc_take (tmS rfl rfl) <| bc_nil) (by kernel_rfl)) ?_
      refine rg_step 17 rfl (by kernel_rfl) (want_0) (oks_drop hS 2 rfl) ?_; intro K hK
      refine ow_storeA hS 1 rfl ts_44 (tmP rfl rfl) (tmA rfl rfl) rfl rfl rfl ?_
      clear hS; intro w hS
      try replace hS := St.nm (M' := [.row _ _ _ _ _, .blk _ _ [_, _, _, _, _], .vw _ _, .vw _ _]) hS rfl
      refine hK _ _ ?_; clear hK K
      refine rg_take 18 rfl rfl (by kernel_rfl) (by kernel_rfl) (by kernel_rfl) (want_0) (fun w hok => x_assign ev_c) ?_
      refine rg_done (oks_drop hS 2 rfl) (by kernel_rfl) ?_
      simp only [List.nil_append, Nat.zero_add] at hS
      refine then_n (hK4 _ _ ?_); clear hK4 K4
      refine wp_ret ?_
      refine ret2 rfl (.cell rfl rfl (load_rowB (cs := [_, _, _, _, _]) hS.ok 1 rfl Try.underlying44 rfl ts_44 rfl)) (.tmp rfl (show _ = Value.bool _ from rfl)) ?_
      refine ⟨g3_15, cg3_15, ?_, hS.newv 0 rfl, hS.kp⟩
      rw [getN_one (by omega), getN_one (by omega)]
      rfl
    · intro K hK
      refine ow_build0 hS Try.underlying22 tz_5 rfl rfl ?_
      clear hS; intro g3_12 w hg3_12 hS
      refine hK _ _ ?_; clear hK K
      refine rg_step 10 rfl (by kernel_rfl) (want_0) (oks_drop hS 2 rfl) ?_; intro K hK
      refine ow_call Try.func17 rfl rfl (evs_cons (tmS rfl rfl) <| evs_cons (ev_cN 4) <| evs_cons (ev_cN 4) <| evs_nil) (get_c n _ c l 4 4 _ (by first | exact viewV hS.ok 2 rfl | exact viewV hS.ok 3 rfl) hl hc hn4 hb (by omega) (by omega)) ?_
      rintro e w ⟨rfl, hk⟩
      refine ⟨_, rfl, ?_⟩
      replace hS := hS.kept hk
      clear hk
      refine hK _ _ ?_; clear hK K
      refine rg_take 11 rfl rfl (by kernel_rfl) (by kernel_rfl) (by kernel_rfl) (want_0) (fun w hok => x_convN Try.underlying24 Try.underlying30 (tmI rfl rfl) (fit_u32 (by omega))) ?_
      refine rg_step 15 rfl (by kernel_rfl) (want_0) (oks_drop hS 2 rfl) ?_; intro K hK
      refine ow_appendV hS 0 rfl (viewV hS.ok 2 rfl) Try.underlying22 tz_5 rfl (tmS rfl rfl) (tmS rfl rfl) (by first | exact u8v_one _ | (intro u hu; simp at hu; first | (rcases hu with rfl | rfl <;> rfl) | (obtain ⟨_, _, rfl⟩ := hu; rfl))) ⟨by decide, by first | rfl | (simp; done) | (simp; omega)⟩ (by simp only [maxLen]; omega) (by omega) ?_; clear hS; intro g3_15 cg3_15 w hAg3_15 hCg3_15 hS
      refine hK _ _ ?_; clear hK K
      refine rg_take 16 rfl rfl (by kernel_rfl) (by kernel_rfl) (by kernel_rfl) (want_0) (fun w hok => x_build (bc_take (tmI rfl rfl) <| bc_take (tmI rfl rfl) <| bc_take (tmI rfl rfl) <| bc_take (tmI rfl rfl) <| bc_take (tmS rfl rfl) <| bc_nil) (by kernel_rfl)) ?_
      refine rg_step 17 rfl (by kernel_rfl) (want_0) (oks_drop hS 2 rfl) ?_; intro K hK
      refine ow_storeA hS 1 rfl ts_44 (tmP rfl rfl) (tmA rfl rfl) rfl rfl rfl ?_
      clear hS; intro w hS
      try replace hS := St.nm (M' := [.row _ _ _ _ _, .blk _ _ [_, _, _, _, _], .vw _ _, .vw _ _]) hS rfl
      refine hK _ _ ?_; clear hK K
      refine rg_take 18 rfl rfl (by kernel_rfl) (by kernel_rfl) (by kernel_rfl) (want_0) (fun w hok => x_assign ev_c) ?_
      refine rg_done (oks_drop hS 2 rfl) (by kernel_rfl) ?_
      simp only [List.nil_append, Nat.zero_add] at hS
      refine then_n (hK4 _ _ ?_); clear hK4 K4
      refine wp_ret ?_
      refine ret2 rfl (.cell rfl rfl (load_rowB (cs := [_, _, _, _, _]) hS.ok 1 rfl Try.underlying44 rfl ts_44 rfl)) (.tmp rfl (show _ = Value.bool _ from rfl)) ?_
      refine ⟨g3_15, cg3_15, ?_, hS.newv 0 rfl, hS.kp⟩
      rw [getN_one (by omega), getN_one (by omega)]
      rfl
  · intro K hK
    refine ow_build0 hS Try.underlying22 tz_5 rfl rfl ?_
    clear hS; intro g3_12 w hg3_12 hS
    refine hK _ _ ?_; clear hK K
    refine rg_step 7 rfl (by kernel_rfl) (want_0) (oks_drop hS 2 rfl) ?_; intro K hK
    refine ow_call Try.func17 rfl rfl (evs_cons (tmS rfl rfl) <| evs_cons (ev_cN 2) <| evs_cons (ev_cN 2) <| evs_nil) (get_c n _ c l 2 2 _ (by first | exact viewV hS.ok 2 rfl | exact viewV hS.ok 3 rfl) hl hc hn4 hb (by omega) (by omega)) ?_
    rintro e w ⟨rfl, hk⟩
    refine ⟨_, rfl, ?_⟩
    replace hS := hS.kept hk
    clear hk
    refine hK _ _ ?_; clear hK K
    refine rg_take 8 rfl rfl (by kernel_rfl) (by kernel_rfl) (by kernel_rfl) (want_0) (fun w hok => x_convN Try.underlying24 Try.underlying27 (tmI rfl rfl) (fit_u16 (by omega))) ?_
    refine rg_step 10 rfl (by kernel_rfl) (want_0) (oks_drop hS 2 rfl) ?_; intro K hK
    refine ow_call Try.func17 rfl rfl (evs_cons (tmS rfl rfl) <| evs_cons (ev_cN 4) <| evs_cons (ev_cN 4) <| evs_nil) (get_c n _ c l 4 4 _ (by first | exact viewV hS.ok 2 rfl | exact viewV hS.ok 3 rfl) hl hc hn4 hb (by omega) (by omega)) ?_
    rintro e w ⟨rfl, hk⟩
    refine ⟨_, rfl, ?_⟩
    replace hS := hS.kept hk
    clear hk
    refine hK _ _ ?_; clear hK K
    refine rg_take 11 rfl rfl (by kernel_rfl) (by kernel_rfl) (by kernel_rfl) (want_0) (fun w hok => x_convN Try.underlying24 Try.underlying30 (tmI rfl rfl) (fit_u32 (by omega))) ?_
    refine rg_step 15 rfl (by kernel_rfl) (want_0) (oks_drop hS 2 rfl) ?_; intro K hK
    refine ow_appendV hS 0 rfl (viewV hS.ok 2 rfl) Try.underlying22 tz_5 rfl (tmS rfl rfl) (tmS rfl rfl) (by first | exact u8v_one _ | (intro u hu; simp at hu; first | (rcases hu with rfl | rfl <;> rfl) | (obtain ⟨_, _, rfl⟩ := hu; rfl))) ⟨by decide, by first | rfl | (simp; done) | (simp; omega)⟩ (by simp only [maxLen]; omega) (by omega) ?_; clear hS; intro g3_15 cg3_15 w hAg3_15 hCg3_15 hS
    refine hK _ _ ?_; clear hK K
    refine rg_take 16 rfl rfl (by kernel_rfl) (by kernel_rfl) (by kernel_rfl) (want_0) (fun w hok => x_build (bc_take (tmI rfl rfl) <| bc_take (tmI rfl rfl) <| bc_take (tmI rfl rfl) <| bc_take (tmI rfl rfl) <| bc_take (tmS rfl rfl) <| bc_nil) (by kernel_rfl)) ?_
    refine rg_step 17 rfl (by kernel_rfl) (want_0) (oks_drop hS 2 rfl) ?_; intro K hK
    refine ow_storeA hS 1 rfl ts_44 (tmP rfl rfl) (tmA rfl rfl) rfl rfl rfl ?_
    clear hS; intro w hS
    try replace hS := St.nm (M' := [.row _ _ _ _ _, .blk _ _ [_, _, _, _, _], .vw _ _, .vw _ _]) hS rfl
    refine hK _ _ ?_; clear hK K
    refine rg_take 18 rfl rfl (by kernel_rfl) (by kernel_rfl) (by kernel_rfl) (want_0) (fun w hok => x_assign ev_c) ?_
    refine rg_done (oks_drop hS 2 rfl) (by kernel_rfl) ?_
    simp only [List.nil_append, Nat.zero_add] at hS
    refine then_n (hK4 _ _ ?_); clear hK4 K4
    refine wp_ret ?_
    refine ret2 rfl (.cell rfl rfl (load_rowB (cs := [_, _, _, _, _]) hS.ok 1 rfl Try.underlying44 rfl ts_44 rfl)) (.tmp rfl (show _ = Value.bool _ from rfl)) ?_
    refine ⟨g3_15, cg3_15, ?_, hS.newv 0 rfl, hS.kp⟩
    rw [getN_one (by omega), getN_one (by omega)]
    rfl

set_option maxRecDepth 100000 in
set_option maxHeartbeats 4000000 in
theorem ricmp_parse_short (n : Nat) (A : Option Addr) (c : Nat) (w0 : World) (h8 : n < 8) :
    Calls Try.prog 42 #[.slice A n c] w0 fun e w' => e = .returned (.tuple #[.agg (msgV 0 0 0 0 none 0 0).toArray, .bool false]) ∧ Kp [] w0 w' := by
  have hS := St.sv w0
  refine ent (n := 25) Try.func42 rfl rfl ?_
  refine wp_seq_k ?_; intro K1 hK1
  refine wlit ?_
  refine wl_e rfl ?_; intro K hK
  refine ow_alloc hS tz_44 rfl ?_
  clear hS; intro g0_0 w hg0_0 hS
  refine hK _ _ ?_; clear hK K
  refine wl_v (x_assign ev_c) ?_
  refine wl_nil ?_
  refine then_n (hK1 _ _ ?_); clear hK1 K1
  refine wp_seq_k ?_; intro K2 hK2
  refine wp_seq_k ?_; intro K3 hK3
  refine wlit ?_
  refine wl_v (x_move (tmS rfl rfl)) ?_
  refine wl_v (x_len Try.underlying22 (tmS rfl rfl)) ?_
  refine wl_v (x_lss (tmI rfl rfl) (ev_cN 8)) ?_
  refine wl_nil ?_
  refine then_n (hK3 _ _ ?_); clear hK3 K3
  refine cnds (tm rfl) (fun hc0 => ?_) (fun hc0 => ?_)
  · exfalso
    simp at hc0
    omega
  try simp only [nrm] at hc0
  refine wp_seq_k ?_; intro K4 hK4
  refine wlit ?_
  refine wl_v (x_build (bc_skip (.int .u8 0) <| bc_skip (.int .u8 0) <| bc_skip (.int .u16 0) <| bc_skip (.int .u32 0) <| bc_skip (.slice none 0 0) <| bc_nil) (by kernel_rfl)) ?_
  refine wl_e rfl ?_; intro K hK
  refine ow_storeA hS 0 rfl ts_44 (tmP rfl rfl) (tmA rfl rfl) rfl rfl rfl ?_
  clear hS; intro w hS
  try replace hS := St.nm (M' := [.blk _ _ [_, _, _, _, _], _]) hS rfl
  refine hK _ _ ?_; clear hK K
  refine wl_v (x_assign ev_c) ?_
  refine wl_nil ?_
  refine then_n (hK4 _ _ ?_); clear hK4 K4
  refine wp_ret ?_
  refine then_r ?_
  refine ret2 rfl (.cell rfl rfl (load_rowB (cs := [_, _, _, _, _]) hS.ok 0 rfl Try.underlying44 rfl ts_44 rfl)) (.tmp rfl (show _ = Value.bool _ from rfl)) ?_
  exact ⟨rfl, hS.kp⟩
end Go.Proofs.Ytcobjneobdihkaa
/- ip4: what is written is read: mathematics. -/
namespace Go.Proofs.Ytcobjneobdihkaa
open Go.RowKit

theorem nth_app_r {p q : List Nat} {i : Nat} : nth (p ++ q) (p.length + i) = nth q i := by
  unfold nth
  rw [List.getD_eq_getElem?_getD, List.getD_eq_getElem?_getD, List.getElem?_append_right (by omega), Nat.add_sub_cancel_left]
theorem nth_app_l {p q : List Nat} {i : Nat} (h : i < p.length) : nth (p ++ q) i = nth p i := by
  unfold nth
  rw [List.getD_eq_getElem?_getD, List.getD_eq_getElem?_getD, List.getElem?_append_left h]
theorem psum_app_l {p q : List Nat} {k : Nat} (h : k ≤ p.length) : psum (p ++ q) k = psum p k := by
  induction k with
  | zero => rfl
  | succ k ih => simp only [psum]; rw [ih (by omega), nth_app_l (by omega)]
theorem psum_append {p q : List Nat} (he : p.length % 2 = 0) (k : Nat) : psum (p ++ q) (p.length + k) = psum p p.length + psum q k := by
  induction k with
  | zero => simp only [Nat.add_zero, psum]; exact psum_app_l (Nat.le_refl _)
  | succ k ih =>
    rw [← Nat.add_assoc]
    simp only [psum]
    rw [ih, nth_app_r]
    have : (p.length + k) % 2 = k % 2 := by omega
    rw [this]
    split <;> omega
structure Ip4Got (l : List Nat) (tos id fl ttl proto ck sl dl sz len : Nat) (o x : List Nat) : Prop where
  form : Ip4Form l l.length sz len
  sum : SumOk l sz
  g1 : getN l 1 1 = tos
  g4 : getN l 4 2 = id
  g6 : getN l 6 2 = fl
  g8 : getN l 8 1 = ttl
  g9 : getN l 9 1 = proto
  g10 : getN l 10 2 = ck
  g12 : getN l 12 4 = sl
  g16 : getN l 16 4 = dl
  opt : (l.drop 20).take (sz - 20) = o
  load : (l.drop sz).take (len - sz) = x
end Go.Proofs.Ytcobjneobdihkaa
/- icmp: the pseudo header, sums, Summed, Fine and the references', by contract. Conditions: none but bounds. -/
namespace Go.Proofs.Ytcobjneobdihkaa
open Go.RowKit

def ps6 (s d : Ad) (p n : Nat) : List Nat := adB s ++ adB d ++ be n 4 ++ be p 4
theorem ps6_len {s d : Ad} {p n : Nat} (hs : s.six = true) (hd : d.six = true) : (ps6 s d p n).length = 40 := by simp [ps6, be_length, adB_len, adN_six hs, adN_six hd]
theorem ps6_bytes (s d : Ad) (p n : Nat) : Bytes (ps6 s d p n) := by
  unfold ps6
  repeat' (first | exact be_bytes _ _ | exact adB_bytes _ | apply Bytes.append)
set_option maxRecDepth 100000 in
set_option maxHeartbeats 8000000 in
theorem ip6_pseudo6_c (s d : Ad) (p n : Nat) (w0 : World) (hs : s.six = true) (hd : d.six = true) (hls : adLim s) (hld : adLim d) (hp : p ≤ 255) (hn4 : n ≤ 1000000) :
    Calls Try.prog 83 #[.agg s.V.toArray, .agg d.V.toArray, .int .u8 (p : Int), .int .i64 (n : Int)] w0 fun e w' => ∃ A' m c', m = (ps6 s d p n).length ∧ e = .returned (.slice A' m c') ∧ New w0 w' (.row (.slice A' m c') 5 1 m ((ps6 s d p n).map u8v)) ∧ Kp [] w0 w' := by
  have hS := St.sv w0
  have hns := adN_six hs
  have hnd := adN_six hd
  have hsl : (adB s).length = 16 := by rw [adB_len, hns]
  have hdl : (adB d).length = 16 := by rw [adB_len, hnd]
  refine ent (n := 33) Try.func83 rfl rfl ?_
  refine wp_seq_k ?_; intro K1 hK1
  refine wlit ?_
  refine wl_e rfl ?_; intro K hK
  refine ow_box hS (tmA rfl rfl) rfl ?_
  clear hS; intro g0_0 w hg0_0 hS
  refine hK _ _ ?_; clear hK K
  refine wl_e rfl ?_; intro K hK
  refine ow_box hS (tmA rfl rfl) rfl ?_
  clear hS; intro g0_1 w hg0_1 hS
  refine hK _ _ ?_; clear hK K
  refine wl_v (x_assign ev_c) ?_
  refine wl_nil ?_
  refine then_n (hK1 _ _ ?_); clear hK1 K1
  refine wp_seq_k ?_; intro K2 hK2
  refine rg_startk 0 hS mixed_ ?_
  clear hS; intro w hS
  refine rg_take 0 rfl rfl (by kernel_rfl) (by kernel_rfl) (by kernel_rfl) (want_0) (fun w hok => x_loadA (cs := [_, _, _]) Try.underlying26 rfl ts_26 (tmP rfl rfl) (rangeB hok 1 rfl rfl)) ?_
  refine rg_take 2 rfl rfl (by kernel_rfl) (by kernel_rfl) (by kernel_rfl) (want_0) (fun w hok => x_loadA (cs := [_, _, _]) Try.underlying26 rfl ts_26 (tmP rfl rfl) (rangeB hok 0 rfl rfl)) ?_
  refine rg_step 1 rfl (by kernel_rfl) (want_0) (oks_drop hS 0 rfl) ?_; intro K hK
  refine ow_call Try.func50 rfl rfl (evs_cons (tmA rfl rfl) <| evs_nil) (ad_bytes_c s _ hls) ?_
  rintro e w ⟨Aa, na, ca, hna, rfl, hn, hk⟩
  refine ⟨_, rfl, ?_⟩
  obtain rfl : na = 16 := hna.trans hns
  replace hS := hS.add hk hn -- +rowb
  clear hn hk
  refine hK _ _ ?_; clear hK K
  refine rg_step 3 rfl (by kernel_rfl) (want_0) (oks_drop hS 1 rfl) ?_; intro K hK
  refine ow_call Try.func50 rfl rfl (evs_cons (tmA rfl rfl) <| evs_nil) (ad_bytes_c d _ hld) ?_
  rintro e w ⟨Ab, nb, cb, hnb, rfl, hn, hk⟩
  refine ⟨_, rfl, ?_⟩
  obtain rfl : nb = 16 := hnb.trans hnd
  replace hS := (hS.add hk hn).freeze 0 rfl -- +va
  clear hn hk
  refine hK _ _ ?_; clear hK K
  refine rg_step 4 rfl (by kernel_rfl) (want_0) (oks_drop hS 2 rfl) ?_; intro K hK
  refine ow_appendV hS 1 rfl (viewV hS.ok 0 rfl) Try.underlying22 tz_5 rfl (tmS rfl rfl) (tmS rfl rfl) (by first | exact u8v_one _ | (intro u hu; simp at hu; first | (rcases hu with rfl | rfl <;> rfl) | (obtain ⟨_, _, rfl⟩ := hu; rfl))) ⟨by decide, by first | rfl | (simp; done) | (simp; omega)⟩ (by simp only [maxLen]; omega) (by omega) ?_; clear hS; intro g1_4 cg1_4 w hAg1_4 hCg1_4 hS
  refine hK _ _ ?_; clear hK K
  refine rg_take 5 rfl rfl (by kernel_rfl) (by kernel_rfl) (by kernel_rfl) (want_0) (fun w hok => x_assign (tmS rfl rfl)) ?_
  refine rg_done (oks_drop hS 2 rfl) (by kernel_rfl) ?_
  rw [← List.map_append] at hS
  replace hS := hS.pick [1, 2, 3] rfl rfl
  try replace hS := St.nm (M' := [.row _ _ _ _ _, .blk _ _ [_, _, _], .blk _ _ [_, _, _]]) hS rfl
  refine then_n (hK2 _ _ ?_); clear hK2 K2
  refine wp_seq_k ?_; intro K3 hK3
  refine wp_seq_k ?_; intro K4 hK4
  refine wlit ?_
  refine wl_v (x_fa 0 Try.underlying26 rfl rfl ts_4 (tmP rfl rfl)) ?_
  refine wl_v (x_load Try.underlying4 rfl (tmP rfl rfl) (cellB hS.ok 2 rfl rfl)) ?_
  refine wl_nil ?_
  refine then_n (hK4 _ _ ?_); clear hK4 K4
  refine cnds (tm rfl) (fun hc0 => ?_) (fun hc0 => ?_)
  · exfalso
    rw [hs] at hc0
    cases hc0
  try simp only [nrm] at hc0
  refine wp_seq_k ?_; intro K5 hK5
  refine wlit ?_
  refine wl_v (x_move (tmS rfl rfl)) ?_
  refine wl_v (x_move (tmI rfl rfl)) ?_
  refine wl_v (x_convN Try.underlying3 Try.underlying24 (tmI rfl rfl) (fit_u64 (by omega))) ?_
  refine wl_e rfl ?_; intro K hK
  refine ow_call Try.func48 rfl rfl (evs_cons (tmS rfl rfl) <| evs_cons (tmI rfl rfl) <| evs_cons (ev_cN 4) <| evs_nil) (put_c _ _ _ _ _ _ _ (viewR hS.ok 0 rfl) (by simp [be_length, hsl, hdl]) (by omega) (by omega) (by omega)) ?_
  rintro e w ⟨g2, rfl, hn, hk⟩
  refine ⟨_, rfl, ?_⟩
  replace hS := (hS.add hk hn).pick [0, 2, 3] rfl rfl --ents rowb,g0_1,g0_0
  clear hn hk
  try replace hS := St.nm (M' := [.row _ _ _ _ _, .blk _ _ [_, _, _], .blk _ _ [_, _, _]]) hS rfl
  refine hK _ _ ?_; clear hK K
  refine wl_v (x_assign (tmS rfl rfl)) ?_
  refine wl_nil ?_
  refine then_n (hK5 _ _ ?_); clear hK5 K5
  refine wp_seq_k ?_; intro K6 hK6
  refine wlit ?_
  refine wl_v (x_move (tmS rfl rfl)) ?_
  refine wl_v (x_move (tmI rfl rfl)) ?_
  refine wl_v (x_convN Try.underlying5 Try.underlying24 (tmI rfl rfl) (fit_u64 (by omega))) ?_
  refine wl_e rfl ?_; intro K hK
  refine ow_call Try.func48 rfl rfl (evs_cons (tmS rfl rfl) <| evs_cons (tmI rfl rfl) <| evs_cons (ev_cN 4) <| evs_nil) (put_c _ _ _ _ _ _ _ (viewR hS.ok 0 rfl) (by simp [be_length, hsl, hdl]) (by omega) (by omega) (by omega)) ?_
  rintro e w ⟨g2, rfl, hn, hk⟩
  refine ⟨_, rfl, ?_⟩
  replace hS := (hS.add hk hn).pick [0, 2, 3] rfl rfl --ents rowb,g0_1,g0_0
  clear hn hk
  try replace hS := St.nm (M' := [.row _ _ _ _ _, .blk _ _ [_, _, _], .blk _ _ [_, _, _]]) hS rfl
  refine hK _ _ ?_; clear hK K
  refine wl_v (x_assign (tmS rfl rfl)) ?_
  refine wl_nil ?_
  refine then_n (hK6 _ _ ?_); clear hK6 K6
  refine wp_ret ?_
  refine then_r ?_
  refine ret1 rfl (.tmp rfl (show _ = Value.slice _ _ _ from rfl)) ?_
  exact ⟨_, _, _, by rw [ps6_len hs hd], rfl, hS.new 0 rfl rfl, hS.kp⟩

theorem be4_small {p : Nat} (h : p ≤ 255) : be p 4 = [0, 0, 0, p] := by
  rw [be4]
  simp only [List.cons.injEq, and_true]
  refine ⟨by omega, by omega, by omega, by omega⟩
set_option maxRecDepth 100000 in
set_option maxHeartbeats 8000000 in
theorem rip6_pseudo6_c (s d : Ad) (p n : Nat) (w0 : World) (hs : s.six = true) (hd : d.six = true) (hls : adLim s) (hld : adLim d) (hp : p ≤ 255) (hn4 : n ≤ 65535) :
    Calls Try.prog 58 #[.agg s.V.toArray, .agg d.V.toArray, .int .u8 (p : Int), .int .i64 (n : Int)] w0 fun e w' => ∃ A' m c', m = (ps6 s d p n).length ∧ e = .returned (.slice A' m c') ∧ New w0 w' (.row (.slice A' m c') 5 1 m ((ps6 s d p n).map u8v)) ∧ Kp [] w0 w' := by
  have hS := St.sv w0
  have hns := adN_six hs
  have hnd := adN_six hd
  have hsl : (adB s).length = 16 := by rw [adB_len, hns]
  have hdl : (adB d).length = 16 := by rw [adB_len, hnd]
  have hlen := ps6_len (p := p) (n := n) hs hd
  have hj1 : ∀ (G1 G2 : Option Addr) (j1 j2 : Nat), joined [(G1, be n 4, j1), (G2, [0, 0, 0, p], j2)] = be n 4 ++ be p 4 := by
    intro G1 G2 j1 j2
    rw [be4_small hp]
    simp only [joined, List.map_cons, List.map_nil, List.flatten_cons, List.flatten_nil, List.append_nil]
  have hj2 : ∀ (G1 G2 G3 : Option Addr) (j1 j2 j3 : Nat), joined [(G1, adB s, j1), (G2, adB d, j2), (G3, be n 4 ++ be p 4, j3)] = ps6 s d p n := by
    intro G1 G2 G3 j1 j2 j3
    simp only [joined, ps6, List.map_cons, List.map_nil, List.flatten_cons, List.flatten_nil, List.append_nil, List.append_assoc]
  have hjl : (be n 4 ++ be p 4).length = 8 := by simp [be_length]
  refine ent (n := 34) Try.func58 rfl rfl ?_
  refine wp_seq_k ?_; intro K1 hK1
  refine wlit ?_
  refine wl_e rfl ?_; intro K hK
  refine ow_box hS (tmA rfl rfl) rfl ?_
  clear hS; intro g0_0 w hg0_0 hS
  refine hK _ _ ?_; clear hK K
  refine wl_e rfl ?_; intro K hK
  refine ow_box hS (tmA rfl rfl) rfl ?_
  clear hS; intro g0_1 w hg0_1 hS
  refine hK _ _ ?_; clear hK K
  refine wl_v (x_assign ev_c) ?_
  refine wl_nil ?_
  refine then_n (hK1 _ _ ?_); clear hK1 K1
  refine wp_seq_k ?_; intro K2 hK2
  refine wlit ?_
  refine wl_v (x_move (tmI rfl rfl)) ?_
  refine wl_v (x_move (tmI rfl rfl)) ?_
  refine wl_v (x_quoN (tmI rfl rfl) (ev_cN 256) (by omega) (fit_i64 (by omega))) ?_
  refine wl_v (x_convN Try.underlying3 Try.underlying5 (tmI rfl rfl) (fit_u8 (by omega))) ?_
  refine wl_v (x_move (tmI rfl rfl)) ?_
  refine wl_v (x_remN (tmI rfl rfl) (ev_cN 256) (by omega)) ?_
  refine wl_v (x_convN Try.underlying3 Try.underlying5 (tmI rfl rfl) (fit_u8 (by omega))) ?_
  refine wl_e rfl ?_; intro K hK
  refine ow_build hS Try.underlying22 tz_5 (bc_take (ev_cN 0) <| bc_take (tmI rfl rfl) <| bc_take (tmI rfl rfl) <| bc_take (tmI rfl rfl) <| bc_nil) rfl rfl (by kernel_rfl) ?_
  clear hS; intro g1_7 w hg1_7 hS
  refine hK _ _ ?_; clear hK K
  refine wl_v (x_assign (tmS rfl rfl)) ?_
  refine wl_nil ?_
  refine then_n (hK2 _ _ ?_); clear hK2 K2
  refine wp_seq_k ?_; intro K3 hK3
  refine wp_seq_k ?_; intro K4 hK4
  refine wlit ?_
  refine wl_v (x_fa 0 Try.underlying26 rfl rfl ts_4 (tmP rfl rfl)) ?_
  refine wl_v (x_load Try.underlying4 rfl (tmP rfl rfl) (cellB hS.ok 2 rfl rfl)) ?_
  refine wl_nil ?_
  refine then_n (hK4 _ _ ?_); clear hK4 K4
  refine cnds (tm rfl) (fun hc0 => ?_) (fun hc0 => ?_)
  · exfalso
    rw [hs] at hc0
    cases hc0
  try simp only [nrm] at hc0
  refine wlit ?_
  refine wl_v (x_move (tmI rfl rfl)) ?_
  refine wl_v (x_convN Try.underlying3 Try.underlying24 (tmI rfl rfl) (fit_u64 (by omega))) ?_
  refine wl_e rfl ?_; intro K hK
  refine ow_call Try.func73 rfl rfl (evs_cons (tmI rfl rfl) <| evs_cons (ev_cN 4) <| evs_nil) (rbytes_c n 4 _ (by omega) (by omega)) ?_
  rintro e w ⟨ga, rfl, hn, hk⟩
  refine ⟨_, rfl, ?_⟩
  replace hS := hS.add hk hn -- +rowa
  clear hn hk
  refine hK _ _ ?_; clear hK K
  refine wl_v (x_move (tmI rfl rfl)) ?_
  refine wl_e rfl ?_; intro K hK
  refine ow_build hS Try.underlying22 tz_5 (bc_take (ev_cN 0) <| bc_take (ev_cN 0) <| bc_take (ev_cN 0) <| bc_take (tmI rfl rfl) <| bc_nil) rfl rfl (by kernel_rfl) ?_
  clear hS; intro g3_4 w hg3_4 hS
  refine hK _ _ ?_; clear hK K
  refine wl_e rfl ?_; intro K hK
  refine ow_build hS Try.underlying126 tz_22 (bc_take (tmS rfl rfl) <| bc_take (tmS rfl rfl) <| bc_nil) rfl rfl (by kernel_rfl) ?_
  clear hS; intro g3_5 w hg3_5 hS
  refine hK _ _ ?_; clear hK K
  refine wl_e rfl ?_; intro K hK
  refine ow_call Try.func57 rfl rfl (evs_cons (tmS rfl rfl) <| evs_nil) (join_c 2 _ _ [(some ⟨ga, 0, none⟩, be n 4, 4), (some ⟨g3_4, 0, none⟩, [0, 0, 0, p], 4)] _ (viewB hS.ok 0 rfl) (seen_cons (viewR hS.ok 2 rfl) <| seen_cons (viewB hS.ok 1 rfl) seen_nil) rfl (by omega) (by rw [hj1, hjl]; omega)) ?_
  rintro e w ⟨Aj, mj, cj, hmj, rfl, hn, hk⟩
  refine ⟨_, rfl, ?_⟩
  rw [hj1] at hn hmj
  rw [hjl] at hmj
  subst hmj
  replace hS := hS.add hk hn -- +rowj
  clear hn hk
  refine hK _ _ ?_; clear hK K
  refine wl_v (x_assign (tmS rfl rfl)) ?_
  refine wl_nil ?_
  refine then_n (hK3 _ _ ?_); clear hK3 K3
  refine wp_seq_k ?_; intro K5 hK5
  refine rg_startk 0 hS mixed_ ?_
  clear hS; intro w hS
  refine rg_take 0 rfl rfl (by kernel_rfl) (by kernel_rfl) (by kernel_rfl) (want_0) (fun w hok => x_loadA (cs := [_, _, _]) Try.underlying26 rfl ts_26 (tmP rfl rfl) (rangeB hok 6 rfl rfl)) ?_
  refine rg_take 2 rfl rfl (by kernel_rfl) (by kernel_rfl) (by kernel_rfl) (want_0) (fun w hok => x_loadA (cs := [_, _, _]) Try.underlying26 rfl ts_26 (tmP rfl rfl) (rangeB hok 5 rfl rfl)) ?_
  refine rg_take 4 rfl rfl (by kernel_rfl) (by kernel_rfl) (by kernel_rfl) (want_0) (fun w hok => x_move (tmS rfl rfl)) ?_
  refine rg_step 1 rfl (by kernel_rfl) (want_0) (oks_drop hS 0 rfl) ?_; intro K hK
  refine ow_call Try.func74 rfl rfl (evs_cons (tmA rfl rfl) <| evs_nil) (rad_bytes_c _ _ hls) ?_
  rintro e w ⟨Ad, nd, cd, hn', rfl, hn, hk⟩
  refine ⟨_, rfl, ?_⟩
  obtain rfl : nd = 16 := hn'.trans hns
  replace hS := hS.add hk hn -- +rowd
  clear hn hk
  refine hK _ _ ?_; clear hK K
  refine rg_step 3 rfl (by kernel_rfl) (want_0) (oks_drop hS 1 rfl) ?_; intro K hK
  refine ow_call Try.func74 rfl rfl (evs_cons (tmA rfl rfl) <| evs_nil) (rad_bytes_c _ _ hld) ?_
  rintro e w ⟨Ae, ne, ce, hn', rfl, hn, hk⟩
  refine ⟨_, rfl, ?_⟩
  obtain rfl : ne = 16 := hn'.trans hnd
  replace hS := hS.add hk hn -- +rowe
  clear hn hk
  refine hK _ _ ?_; clear hK K
  refine rg_step 5 rfl (by kernel_rfl) (want_0) (oks_drop hS 2 rfl) ?_; intro K hK
  refine ow_build hS Try.underlying126 tz_22 (bc_take (tmS rfl rfl) <| bc_take (tmS rfl rfl) <| bc_take (tmS rfl rfl) <| bc_nil) rfl rfl (by kernel_rfl) ?_
  clear hS; intro g4_5 w hg4_5 hS
  refine hK _ _ ?_; clear hK K
  refine rg_step 6 rfl (by kernel_rfl) (want_0) (oks_drop hS 3 rfl) ?_; intro K hK
  refine ow_call Try.func57 rfl rfl (evs_cons (tmS rfl rfl) <| evs_nil) (join_c 3 _ _ [(Ad, adB s, cd), (Ae, adB d, ce), (Aj, be n 4 ++ be p 4, cj)] _ (by have h := viewB hS.ok 0 rfl; simp only [List.map_cons, List.map_nil, rowV, hsl, hdl, hjl]; exact h) (seen_cons (viewR hS.ok 2 rfl) <| seen_cons (viewR hS.ok 1 rfl) <| seen_cons (viewR hS.ok 3 rfl) seen_nil) rfl (by omega) (by rw [hj2, hlen]; omega)) ?_
  rintro e w ⟨Az, mz_, cz, hmz, rfl, hn, hk⟩
  refine ⟨_, rfl, ?_⟩
  rw [hj2] at hn hmz
  replace hS := hS.add hk hn -- +rowz
  clear hn hk
  refine hK _ _ ?_; clear hK K
  refine rg_take 7 rfl rfl (by kernel_rfl) (by kernel_rfl) (by kernel_rfl) (want_0) (fun w hok => x_assign (tmS rfl rfl)) ?_
  refine rg_done (oks_drop hS 4 rfl) (by kernel_rfl) ?_
  refine then_n (hK5 _ _ ?_); clear hK5 K5
  refine wp_ret ?_
  refine ret1 rfl (.tmp rfl (show _ = Value.slice _ _ _ from rfl)) ?_
  exact ⟨_, _, _, hmz, rfl, hS.new 0 rfl rfl, hS.kp⟩
end Go.Proofs.Ytcobjneobdihkaa
/- icmp: sums, Summed, Fine and the references', by contract. Conditions: none but bounds. -/
namespace Go.Proofs.Ytcobjneobdihkaa
open Go.RowKit

theorem icmpB_len (t c s d : Nat) (l : List Nat) : (icmpB t c s d l).length = 8 + l.length := by simp [icmpB, be_length]; omega
theorem icmpB_bytes (t c s d : Nat) {l : List Nat} (h : Bytes l) : Bytes (icmpB t c s d l) := by
  unfold icmpB
  repeat' (first | assumption | exact Bytes.nil | exact be_bytes _ _ | apply Bytes.append)
def psL (s d : Ad) (n : Nat) : List Nat := cond s.six (ps6 s d 58 (8 + n)) []
theorem psL_bytes (s d : Ad) (n : Nat) : Bytes (psL s d n) := by
  unfold psL
  cases s.six
  · exact Bytes.nil
  · exact ps6_bytes _ _ _ _
theorem psL_six {s d : Ad} {n : Nat} (hs : s.six = true) : psL s d n = ps6 s d 58 (8 + n) := by unfold psL; rw [hs]; rfl
theorem psL_four {s d : Ad} {n : Nat} (hs : s.six = false) : psL s d n = [] := by unfold psL; rw [hs]; rfl
theorem psL_len {s d : Ad} {n : Nat} (h : s.six = d.six) : (psL s d n).length = 40 ∨ (psL s d n).length = 0 := by
  cases hs : s.six
  · right; rw [psL_four hs]; rfl
  · left; rw [psL_six hs, ps6_len hs (h ▸ hs)]
def icS (t c s d : Nat) (l : List Nat) (a b : Ad) : Nat := psum (psL a b l.length) (psL a b l.length).length + psum (icmpB t c s d l) (icmpB t c s d l).length
theorem icS_joined (t c s d : Nat) (l : List Nat) {a b : Ad} (h : a.six = b.six) (ls : List Nat) (hls : ls = psL a b l.length ++ icmpB t c s d l) : psum ls ls.length = icS t c s d l a b := by
  subst hls
  unfold icS
  rw [List.length_append]
  exact psum_append (by rcases psL_len (n := l.length) h with h | h <;> rw [h]) _
theorem rsum_two (A B : Option Addr) (l m : List Nat) (c d : Nat) : rsum [(A, l, c), (B, m, d)] 2 = psum l l.length + psum m m.length := by simp [rsum]
theorem joined_two (A B : Option Addr) (l m : List Nat) (c d : Nat) : joined [(A, l, c), (B, m, d)] = l ++ m := by simp [joined]

set_option maxRecDepth 100000 in
set_option maxHeartbeats 4000000 in
theorem sum_right_rows_c (n : Nat) (A : Option Addr) (c : Nat) (rows : List (Option Addr × List Nat × Nat)) (w0 : World) (hv : View w0 w0.heap.size A (rows.map rowV)) (hr : SeenRows w0 rows) (hb : BytesRows rows) (hl : rows.length = n) (hn4 : n ≤ 1000000) (hj4 : (joined rows).length ≤ 1000000) :
    Calls Try.prog 76 #[.slice A n c] w0 fun e w' => e = .returned (.bool (decide (foldN (rsum rows n) = 65535))) ∧ Kp [] w0 w' := by
  have hof := sum_of_c n A c rows w0 hv hr hb hl hn4 hj4
  have hS := St.sv w0
  have hfb := foldN_bd (rsum rows n)
  refine ent (n := 6) Try.func76 rfl rfl ?_
  refine wp_seq_k ?_; intro K1 hK1
  refine wlit ?_
  refine wl_v (x_assign ev_c) ?_
  refine wl_nil ?_
  refine then_n (hK1 _ _ ?_); clear hK1 K1
  refine wp_seq_k ?_; intro K2 hK2
  refine wlit ?_
  refine wl_v (x_move (tmS rfl rfl)) ?_
  refine wl_e rfl ?_; intro K hK
  refine ow_call Try.func52 rfl rfl (evs_cons (tmS rfl rfl) <| evs_nil) (hof) ?_
  rintro e w ⟨rfl, hk⟩
  refine ⟨_, rfl, ?_⟩
  replace hS := hS.kept hk
  clear hk
  refine hK _ _ ?_; clear hK K
  refine wl_v (x_eql (tmI rfl rfl) (ev_cN 0)) ?_
  refine wl_v (x_assign (tmB rfl rfl)) ?_
  refine wl_nil ?_
  refine then_n (hK2 _ _ ?_); clear hK2 K2
  refine wp_ret ?_
  refine ret1 rfl (.tmp rfl (show _ = Value.bool _ from rfl)) ?_
  refine ⟨ret_bool (decide_eq_decide.2 ?_), hS.kp⟩
  omega

set_option maxRecDepth 100000 in
set_option maxHeartbeats 8000000 in
theorem icmp_pseudo_c (t c s d : Nat) (A : Option Addr) (n k : Nat) (a b : Ad) (w0 : World) (h6 : a.six = b.six) (hla : adLim a) (hlb : adLim b) (hn : n ≤ 900000) :
    Calls Try.prog 86 #[.agg (msgV t c s d A n k).toArray, .agg a.V.toArray, .agg b.V.toArray] w0 fun e w' => ∃ A' m c', m = (psL a b n).length ∧ e = .returned (.slice A' m c') ∧ New w0 w' (.row (.slice A' m c') 5 1 m ((psL a b n).map u8v)) ∧ Kp [] w0 w' := by
  have hS := St.sv w0
  refine ent (n := 17) Try.func86 rfl rfl ?_
  refine wp_seq_k ?_; intro K1 hK1
  refine wlit ?_
  refine wl_e rfl ?_; intro K hK
  refine ow_box hS (tmA rfl rfl) rfl ?_
  clear hS; intro g0_0 w hg0_0 hS
  refine hK _ _ ?_; clear hK K
  refine wl_e rfl ?_; intro K hK
  refine ow_box hS (tmA rfl rfl) rfl ?_
  clear hS; intro g0_1 w hg0_1 hS
  refine hK _ _ ?_; clear hK K
  refine wl_e rfl ?_; intro K hK
  refine ow_box hS (tmA rfl rfl) rfl ?_
  clear hS; intro g0_2 w hg0_2 hS
  refine hK _ _ ?_; clear hK K
  refine wl_v (x_assign ev_c) ?_
  refine wl_nil ?_
  refine then_n (hK1 _ _ ?_); clear hK1 K1
  refine wp_seq_k ?_; intro K2 hK2
  refine wp_seq_k ?_; intro K3 hK3
  refine wlit ?_
  refine wl_v (x_fa 0 Try.underlying26 rfl rfl ts_4 (tmP rfl rfl)) ?_
  refine wl_v (x_load Try.underlying4 rfl (tmP rfl rfl) (cellB hS.ok 1 rfl rfl)) ?_
  refine wl_v (x_not (tmB rfl rfl)) ?_
  refine wl_nil ?_
  refine then_n (hK3 _ _ ?_); clear hK3 K3
  refine cnd (tm rfl) (fun hc0 => ?_) (fun hc0 => ?_)
  · skip
    try simp only [nrm] at hc0
    refine wp_seq_k ?_; intro K4 hK4
    refine wlit ?_
    refine wl_v (x_assign ev_c) ?_
    refine wl_nil ?_
    refine then_n (hK4 _ _ ?_); clear hK4 K4
    refine wp_ret ?_
    refine then_r ?_
    refine ret1 rfl (.tmp rfl (show _ = Value.slice _ _ _ from rfl)) ?_
    first
      | (rw [psL_six (by simpa using hc0)]
         exact ⟨_, _, _, hm1, rfl, hS.new 0 rfl rfl, hS.kp⟩)
      | (rw [psL_four (by simpa using hc0)]
         exact ⟨_, _, _, rfl, rfl, ⟨World.ownsRow_nil _ 0 _ 1, rfl, fun g hg => by cases hg⟩, hS.kp⟩)
  try simp only [nrm] at hc0
  refine wp_skip ?_
  refine then_n (hK2 _ _ ?_); clear hK2 K2
  refine wp_seq_k ?_; intro K5 hK5
  refine wlit ?_
  refine wl_v (x_loadA (cs := [_, _, _]) Try.underlying26 rfl ts_26 (tmP rfl rfl) (rangeB hS.ok 1 rfl rfl)) ?_
  refine wl_v (x_loadA (cs := [_, _, _]) Try.underlying26 rfl ts_26 (tmP rfl rfl) (rangeB hS.ok 0 rfl rfl)) ?_
  refine wl_v (x_fa 4 Try.underlying51 rfl rfl ts_22 (tmP rfl rfl)) ?_
  refine wl_v (x_load Try.underlying22 rfl (tmP rfl rfl) (cellB hS.ok 2 rfl rfl)) ?_
  refine wl_v (x_len Try.underlying22 (tmS rfl rfl)) ?_
  refine wl_v (x_addN (ev_cN 8) (tmI rfl rfl) (fit_i64 (by omega))) ?_
  refine wl_e rfl ?_; intro K hK
  refine ow_call Try.func83 rfl rfl (evs_cons (tmA rfl rfl) <| evs_cons (tmA rfl rfl) <| evs_cons (ev_cN 58) <| evs_cons (tmI rfl rfl) <| evs_nil) (ip6_pseudo6_c a b 58 (8 + n) _ (by simpa using hc0) (by rw [← h6]; simpa using hc0) hla hlb (by omega) (by omega)) ?_
  rintro e w ⟨A1, m1, c1, hm1, rfl, hn1, hk⟩
  refine ⟨_, rfl, ?_⟩
  replace hS := hS.add hk hn1 -- +rowa
  clear hn1 hk
  refine hK _ _ ?_; clear hK K
  refine wl_v (x_assign (tmS rfl rfl)) ?_
  refine wl_nil ?_
  refine then_n (hK5 _ _ ?_); clear hK5 K5
  refine wp_ret ?_
  refine ret1 rfl (.tmp rfl (show _ = Value.slice _ _ _ from rfl)) ?_
  first
    | (rw [psL_six (by simpa using hc0)]
       exact ⟨_, _, _, hm1, rfl, hS.new 0 rfl rfl, hS.kp⟩)
    | (rw [psL_four (by simpa using hc0)]
       exact ⟨_, _, _, rfl, rfl, ⟨World.ownsRow_nil _ 0 _ 1, rfl, fun g hg => by cases hg⟩, hS.kp⟩)

set_option maxRecDepth 100000 in
set_option maxHeartbeats 8000000 in
theorem icmp_fine_c (t c s d : Nat) (A : Option Addr) (n k : Nat) (l : List Nat) (a b : Ad) (w0 : World) (hv : View w0 w0.heap.size A (l.map u8v)) (hl : l.length = n) (hb : Bytes l) (h6 : a.six = b.six) (hla : adLim a) (hlb : adLim b) (hn4 : n ≤ 900000) (h1 : t ≤ 255) (h2 : c ≤ 255) (h3 : s ≤ 65535) (h4 : d ≤ 4294967295) :
    Calls Try.prog 82 #[.agg (msgV t c s d A n k).toArray, .agg a.V.toArray, .agg b.V.toArray] w0 fun e w' => e = .returned (.bool (decide (foldN (icS t c s d l a b) = 65535))) ∧ Kp [] w0 w' := by
  have hS := (St.sv w0).vcons rfl hv
  have hpl := psL_len (n := n) h6
  have hbl := icmpB_len t c s d l
  refine ent (n := 15) Try.func82 rfl rfl ?_
  refine wp_seq_k ?_; intro K1 hK1
  refine wlit ?_
  refine wl_e rfl ?_; intro K hK
  refine ow_box hS (tmA rfl rfl) rfl ?_
  clear hS; intro g0_0 w hg0_0 hS
  refine hK _ _ ?_; clear hK K
  refine wl_e rfl ?_; intro K hK
  refine ow_box hS (tmA rfl rfl) rfl ?_
  clear hS; intro g0_1 w hg0_1 hS
  refine hK _ _ ?_; clear hK K
  refine wl_e rfl ?_; intro K hK
  refine ow_box hS (tmA rfl rfl) rfl ?_
  clear hS; intro g0_2 w hg0_2 hS
  refine hK _ _ ?_; clear hK K
  refine wl_v (x_assign ev_c) ?_
  refine wl_nil ?_
  refine then_n (hK1 _ _ ?_); clear hK1 K1
  refine wp_seq_k ?_; intro K2 hK2
  refine rg_startk 0 hS mixed_ ?_
  clear hS; intro w hS
  refine rg_take 0 rfl rfl (by kernel_rfl) (by kernel_rfl) (by kernel_rfl) (want_0) (fun w hok => x_loadA (cs := [_, _, _, _, _]) Try.underlying51 rfl ts_51 (tmP rfl rfl) (rangeB hok 2 rfl rfl)) ?_
  refine rg_take 1 rfl rfl (by kernel_rfl) (by kernel_rfl) (by kernel_rfl) (want_0) (fun w hok => x_loadA (cs := [_, _, _]) Try.underlying26 rfl ts_26 (tmP rfl rfl) (rangeB hok 1 rfl rfl)) ?_
  refine rg_take 2 rfl rfl (by kernel_rfl) (by kernel_rfl) (by kernel_rfl) (want_0) (fun w hok => x_loadA (cs := [_, _, _]) Try.underlying26 rfl ts_26 (tmP rfl rfl) (rangeB hok 0 rfl rfl)) ?_
  refine rg_take 4 rfl rfl (by kernel_rfl) (by kernel_rfl) (by kernel_rfl) (want_0) (fun w hok => x_loadA (cs := [_, _, _, _, _]) Try.underlying51 rfl ts_51 (tmP rfl rfl) (rangeB hok 2 rfl rfl)) ?_
  refine rg_step 3 rfl (by kernel_rfl) (want_0) (oks_drop hS 0 rfl) ?_; intro K hK
  refine ow_call Try.func86 rfl rfl (evs_cons (tmA rfl rfl) <| evs_cons (tmA rfl rfl) <| evs_cons (tmA rfl rfl) <| evs_nil) (icmp_pseudo_c t c s d A n k a b _ h6 hla hlb hn4) ?_
  rintro e w ⟨A2, m2, c2, hm2, rfl, hn, hk⟩
  refine ⟨_, rfl, ?_⟩
  subst hm2
  replace hS := hS.add hk hn -- +rowp
  clear hn hk
  refine hK _ _ ?_; clear hK K
  refine rg_step 5 rfl (by kernel_rfl) (want_0) (oks_drop hS 1 rfl) ?_; intro K hK
  refine ow_call Try.func87 rfl rfl (evs_cons (tmA rfl rfl) <| evs_nil) (icmp_bytes_c t c s d A n k l _ (viewV hS.ok 4 rfl) hl hn4 h1 h2 h3 h4) ?_
  rintro e w ⟨A3, m3, c3, hm3, rfl, hn, hk⟩
  refine ⟨_, rfl, ?_⟩
  obtain rfl : m3 = (icmpB t c s d l).length := by rw [icmpB_len]; omega
  replace hS := hS.add hk hn -- +rowb
  clear hn hk
  refine hK _ _ ?_; clear hK K
  refine rg_step 6 rfl (by kernel_rfl) (want_0) (oks_drop hS 2 rfl) ?_; intro K hK
  refine ow_build hS Try.underlying126 tz_22 (bc_take (tmS rfl rfl) <| bc_take (tmS rfl rfl) <| bc_nil) rfl rfl (by kernel_rfl) ?_
  clear hS; intro g1_6 w hg1_6 hS
  refine hK _ _ ?_; clear hK K
  refine rg_step 7 rfl (by kernel_rfl) (want_0) (oks_drop hS 3 rfl) ?_; intro K hK
  refine ow_call Try.func76 rfl rfl (evs_cons (tmS rfl rfl) <| evs_nil) (sum_right_rows_c 2 _ _ [(A2, psL a b n, c2), (A3, icmpB t c s d l, c3)] _ (viewB hS.ok 0 rfl) (seen_cons (viewR hS.ok 2 rfl) <| seen_cons (viewR hS.ok 1 rfl) seen_nil) (brows_cons (psL_bytes _ _ _) <| brows_cons (icmpB_bytes _ _ _ _ hb) brows_nil) rfl (by omega) (by rw [joined_two, List.length_append]; omega)) ?_
  rintro e w ⟨rfl, hk⟩
  refine ⟨_, rfl, ?_⟩
  rw [rsum_two]
  replace hS := hS.kept hk
  clear hk
  refine hK _ _ ?_; clear hK K
  refine rg_take 8 rfl rfl (by kernel_rfl) (by kernel_rfl) (by kernel_rfl) (want_0) (fun w hok => x_assign (tmB rfl rfl)) ?_
  refine rg_done (oks_drop hS 3 rfl) (by kernel_rfl) ?_
  refine then_n (hK2 _ _ ?_); clear hK2 K2
  refine wp_ret ?_
  refine ret1 rfl (.tmp rfl (show _ = Value.bool _ from rfl)) ?_
  unfold icS
  rw [hl]
  exact ⟨rfl, hS.kp⟩

end Go.Proofs.Ytcobjneobdihkaa
/- icmp: the references' Bytes, Check and Summed, kinds of messages, To, by contract. Conditions: none but bounds. -/
namespace Go.Proofs.Ytcobjneobdihkaa
open Go.RowKit
set_option maxRecDepth 100000 in
set_option maxHeartbeats 8000000 in
theorem ricmp_bytes_c (t c s d : Nat) (A : Option Addr) (n k : Nat) (l : List Nat) (w0 : World) (hv : View w0 w0.heap.size A (l.map u8v)) (hl : l.length = n) (hn4 : n ≤ 900000) (h1 : t ≤ 255) (h2 : c ≤ 255) (h3 : s ≤ 65535) (h4 : d ≤ 4294967295) :
    Calls Try.prog 60 #[.agg (msgV t c s d A n k).toArray] w0 fun e w' => ∃ A' m c', m = (icmpB t c s d l).length ∧ e = .returned (.slice A' m c') ∧ New w0 w' (.row (.slice A' m c') 5 1 m ((icmpB t c s d l).map u8v)) ∧ Kp [] w0 w' := by
  have hS := (St.sv w0).vcons rfl hv
  have hlen := icmpB_len t c s d l
  have hjo : ∀ (G1 G2 G3 : Option Addr) (j1 j2 j3 : Nat), joined [(G1, [t, c], j1), (G2, be s 2, j2), (G3, be d 4, j3), (A, l, k)] = icmpB t c s d l := by
    intro G1 G2 G3 j1 j2 j3
    have e1 : be t 1 = [t] := by rw [be_one]; congr 1; omega
    have e2 : be c 1 = [c] := by rw [be_one]; congr 1; omega
    simp only [joined, icmpB, e1, e2, List.map_cons, List.map_nil, List.flatten_cons, List.flatten_nil, List.append_nil, List.nil_append, List.append_assoc, List.cons_append]
  refine ent (n := 20) Try.func60 rfl rfl ?_
  refine wp_seq_k ?_; intro K1 hK1
  refine wlit ?_
  refine wl_e rfl ?_; intro K hK
  refine ow_box hS (tmA rfl rfl) rfl ?_
  clear hS; intro g0_0 w hg0_0 hS
  refine hK _ _ ?_; clear hK K
  refine wl_v (x_assign ev_c) ?_
  refine wl_nil ?_
  refine then_n (hK1 _ _ ?_); clear hK1 K1
  refine wp_seq_k ?_; intro K2 hK2
  refine rg_startk 0 hS mixed_ ?_
  clear hS; intro w hS
  refine rg_take 0 rfl rfl (by kernel_rfl) (by kernel_rfl) (by kernel_rfl) (want_0) (fun w hok => x_fa 0 Try.underlying44 rfl rfl ts_5 (tmP rfl rfl)) ?_
  refine rg_take 1 rfl rfl (by kernel_rfl) (by kernel_rfl) (by kernel_rfl) (want_0) (fun w hok => x_load Try.underlying5 rfl (tmP rfl rfl) (cellB hok 0 rfl rfl)) ?_
  refine rg_take 2 rfl rfl (by kernel_rfl) (by kernel_rfl) (by kernel_rfl) (want_0) (fun w hok => x_fa 1 Try.underlying44 rfl rfl ts_5 (tmP rfl rfl)) ?_
  refine rg_take 3 rfl rfl (by kernel_rfl) (by kernel_rfl) (by kernel_rfl) (want_0) (fun w hok => x_load Try.underlying5 rfl (tmP rfl rfl) (cellB hok 0 rfl rfl)) ?_
  refine rg_take 5 rfl rfl (by kernel_rfl) (by kernel_rfl) (by kernel_rfl) (want_0) (fun w hok => x_fa 2 Try.underlying44 rfl rfl ts_27 (tmP rfl rfl)) ?_
  refine rg_take 6 rfl rfl (by kernel_rfl) (by kernel_rfl) (by kernel_rfl) (want_0) (fun w hok => x_load Try.underlying27 rfl (tmP rfl rfl) (cellB hok 0 rfl rfl)) ?_
  refine rg_take 7 rfl rfl (by kernel_rfl) (by kernel_rfl) (by kernel_rfl) (want_0) (fun w hok => x_convN Try.underlying27 Try.underlying24 (tmI rfl rfl) (fit_u64 (by omega))) ?_
  refine rg_take 9 rfl rfl (by kernel_rfl) (by kernel_rfl) (by kernel_rfl) (want_0) (fun w hok => x_fa 3 Try.underlying44 rfl rfl ts_30 (tmP rfl rfl)) ?_
  refine rg_take 10 rfl rfl (by kernel_rfl) (by kernel_rfl) (by kernel_rfl) (want_0) (fun w hok => x_load Try.underlying30 rfl (tmP rfl rfl) (cellB hok 0 rfl rfl)) ?_
  refine rg_take 11 rfl rfl (by kernel_rfl) (by kernel_rfl) (by kernel_rfl) (want_0) (fun w hok => x_convN Try.underlying30 Try.underlying24 (tmI rfl rfl) (fit_u64 (by omega))) ?_
  refine rg_take 13 rfl rfl (by kernel_rfl) (by kernel_rfl) (by kernel_rfl) (want_0) (fun w hok => x_fa 4 Try.underlying44 rfl rfl ts_22 (tmP rfl rfl)) ?_
  refine rg_take 14 rfl rfl (by kernel_rfl) (by kernel_rfl) (by kernel_rfl) (want_0) (fun w hok => x_load Try.underlying22 rfl (tmP rfl rfl) (cellB hok 0 rfl rfl)) ?_
  refine rg_step2 4 8 rfl rfl (by kernel_rfl) (want_0) (want_0) (oks_drop hS 0 rfl) ?_ ?_
  · intro K hK
    refine ow_build hS Try.underlying22 tz_5 (bc_take (tmI rfl rfl) <| bc_take (tmI rfl rfl) <| bc_nil) rfl rfl (by kernel_rfl) ?_
    clear hS; intro g1_4 w hg1_4 hS
    refine hK _ _ ?_; clear hK K
    refine rg_step 8 rfl (by kernel_rfl) (want_0) (oks_drop hS 1 rfl) ?_; intro K hK
    refine ow_call Try.func73 rfl rfl (evs_cons (tmI rfl rfl) <| evs_cons (ev_cN 2) <| evs_nil) (rbytes_c s 2 _ (by omega) (by omega)) ?_
    rintro e w ⟨ga, rfl, hn, hk⟩
    refine ⟨_, rfl, ?_⟩
    replace hS := hS.add hk hn -- +rowa
    clear hn hk
    refine hK _ _ ?_; clear hK K
    refine rg_step 12 rfl (by kernel_rfl) (want_0) (oks_drop hS 2 rfl) ?_; intro K hK
    refine ow_call Try.func73 rfl rfl (evs_cons (tmI rfl rfl) <| evs_cons (ev_cN 4) <| evs_nil) (rbytes_c d 4 _ (by omega) (by omega)) ?_
    rintro e w ⟨gb, rfl, hn, hk⟩
    refine ⟨_, rfl, ?_⟩
    replace hS := hS.add hk hn -- +rowb
    clear hn hk
    refine hK _ _ ?_; clear hK K
    refine rg_step 15 rfl (by kernel_rfl) (want_0) (oks_drop hS 3 rfl) ?_; intro K hK
    refine ow_build hS Try.underlying126 tz_22 (bc_take (tmS rfl rfl) <| bc_take (tmS rfl rfl) <| bc_take (tmS rfl rfl) <| bc_take (tmS rfl rfl) <| bc_nil) rfl rfl (by kernel_rfl) ?_
    clear hS; intro g1_15 w hg1_15 hS
    refine hK _ _ ?_; clear hK K
    refine rg_step 16 rfl (by kernel_rfl) (want_0) (oks_drop hS 4 rfl) ?_; intro K hK
    refine ow_call Try.func57 rfl rfl (evs_cons (tmS rfl rfl) <| evs_nil) (join_c 4 _ _ [(some ⟨g1_4, 0, none⟩, [t, c], 2), (some ⟨ga, 0, none⟩, be s 2, 2), (some ⟨gb, 0, none⟩, be d 4, 4), (A, l, k)] _ (by have h := viewB hS.ok 0 rfl; simp only [List.map_cons, List.map_nil, rowV, hl]; exact h) (seen_cons (viewB hS.ok 3 rfl) <| seen_cons (viewR hS.ok 2 rfl) <| seen_cons (viewR hS.ok 1 rfl) <| seen_cons (viewV hS.ok 5 rfl) seen_nil) rfl (by omega) (by rw [hjo, hlen]; omega)) ?_
    rintro e w ⟨Aj, mj, cj, hmj, rfl, hn, hk⟩
    refine ⟨_, rfl, ?_⟩
    rw [hjo] at hn hmj
    replace hS := hS.add hk hn -- +rowj
    clear hn hk
    refine hK _ _ ?_; clear hK K
    refine rg_take 17 rfl rfl (by kernel_rfl) (by kernel_rfl) (by kernel_rfl) (want_0) (fun w hok => x_assign (tmS rfl rfl)) ?_
    refine rg_done (oks_drop hS 5 rfl) (by kernel_rfl) ?_
    refine then_n (hK2 _ _ ?_); clear hK2 K2
    refine wp_ret ?_
    refine ret1 rfl (.tmp rfl (show _ = Value.slice _ _ _ from rfl)) ?_
    exact ⟨_, _, _, hmj, rfl, hS.new 0 rfl rfl, hS.kp⟩
  · intro K hK
    refine ow_call Try.func73 rfl rfl (evs_cons (tmI rfl rfl) <| evs_cons (ev_cN 2) <| evs_nil) (rbytes_c s 2 _ (by omega) (by omega)) ?_
    rintro e w ⟨ga, rfl, hn, hk⟩
    refine ⟨_, rfl, ?_⟩
    replace hS := hS.add hk hn -- +rowa
    clear hn hk
    refine hK _ _ ?_; clear hK K
    refine rg_step2 4 12 rfl rfl (by kernel_rfl) (want_0) (want_0) (oks_drop hS 1 rfl) ?_ ?_
    · intro K hK
      refine ow_build hS Try.underlying22 tz_5 (bc_take (tmI rfl rfl) <| bc_take (tmI rfl rfl) <| bc_nil) rfl rfl (by kernel_rfl) ?_
      clear hS; intro g1_4 w hg1_4 hS
      refine hK _ _ ?_; clear hK K
      refine rg_step 12 rfl (by kernel_rfl) (want_0) (oks_drop hS 2 rfl) ?_; intro K hK
      refine ow_call Try.func73 rfl rfl (evs_cons (tmI rfl rfl) <| evs_cons (ev_cN 4) <| evs_nil) (rbytes_c d 4 _ (by omega) (by omega)) ?_
      rintro e w ⟨gb, rfl, hn, hk⟩
      refine ⟨_, rfl, ?_⟩
      replace hS := hS.add hk hn -- +rowb
      clear hn hk
      refine hK _ _ ?_; clear hK K
      refine rg_step 15 rfl (by kernel_rfl) (want_0) (oks_drop hS 3 rfl) ?_; intro K hK
      refine ow_build hS Try.underlying126 tz_22 (bc_take (tmS rfl rfl) <| bc_take (tmS rfl rfl) <| bc_take (tmS rfl rfl) <| bc_take (tmS rfl rfl) <| bc_nil) rfl rfl (by kernel_rfl) ?_
      clear hS; intro g1_15 w hg1_15 hS
      refine hK _ _ ?_; clear hK K
      refine rg_step 16 rfl (by kernel_rfl) (want_0) (oks_drop hS 4 rfl) ?_; intro K hK
      refine ow_call Try.func57 rfl rfl (evs_cons (tmS rfl rfl) <| evs_nil) (join_c 4 _ _ [(some ⟨g1_4, 0, none⟩, [t, c], 2), (some ⟨ga, 0, none⟩, be s 2, 2), (some ⟨gb, 0, none⟩, be d 4, 4), (A, l, k)] _ (by have h := viewB hS.ok 0 rfl; simp only [List.map_cons, List.map_nil, rowV, hl]; exact h) (seen_cons (viewB hS.ok 2 rfl) <| seen_cons (viewR hS.ok 3 rfl) <| seen_cons (viewR hS.ok 1 rfl) <| seen_cons (viewV hS.ok 5 rfl) seen_nil) rfl (by omega) (by rw [hjo, hlen]; omega)) ?_
      rintro e w ⟨Aj, mj, cj, hmj, rfl, hn, hk⟩
      refine ⟨_, rfl, ?_⟩
      rw [hjo] at hn hmj
      replace hS := hS.add hk hn -- +rowj
      clear hn hk
      refine hK _ _ ?_; clear hK K
      refine rg_take 17 rfl rfl (by kernel_rfl) (by kernel_rfl) (by kernel_rfl) (want_0) (fun w hok => x_assign (tmS rfl rfl)) ?_
      refine rg_done (oks_drop hS 5 rfl) (by kernel_rfl) ?_
      refine then_n (hK2 _ _ ?_); clear hK2 K2
      refine wp_ret ?_
      refine ret1 rfl (.tmp rfl (show _ = Value.slice _ _ _ from rfl)) ?_
      exact ⟨_, _, _, hmj, rfl, hS.new 0 rfl rfl, hS.kp⟩
    · intro K hK
      refine ow_call Try.func73 rfl rfl (evs_cons (tmI rfl rfl) <| evs_cons (ev_cN 4) <| evs_nil) (rbytes_c d 4 _ (by omega) (by omega)) ?_
      rintro e w ⟨gb, rfl, hn, hk⟩
      refine ⟨_, rfl, ?_⟩
      replace hS := hS.add hk hn -- +rowb
      clear hn hk
      refine hK _ _ ?_; clear hK K
      refine rg_step 4 rfl (by kernel_rfl) (want_0) (oks_drop hS 2 rfl) ?_; intro K hK
      refine ow_build hS Try.underlying22 tz_5 (bc_take (tmI rfl rfl) <| bc_take (tmI rfl rfl) <| bc_nil) rfl rfl (by kernel_rfl) ?_
      clear hS; intro g1_4 w hg1_4 hS
      refine hK _ _ ?_; clear hK K
      refine rg_step 15 rfl (by kernel_rfl) (want_0) (oks_drop hS 3 rfl) ?_; intro K hK
      refine ow_build hS Try.underlying126 tz_22 (bc_take (tmS rfl rfl) <| bc_take (tmS rfl rfl) <| bc_take (tmS rfl rfl) <| bc_take (tmS rfl rfl) <| bc_nil) rfl rfl (by kernel_rfl) ?_
      clear hS; intro g1_15 w hg1_15 hS
      refine hK _ _ ?_; clear hK K
      refine rg_step 16 rfl (by kernel_rfl) (want_0) (oks_drop hS 4 rfl) ?_; intro K hK
      refine ow_call Try.func57 rfl rfl (evs_cons (tmS rfl rfl) <| evs_nil) (join_c 4 _ _ [(some ⟨g1_4, 0, none⟩, [t, c], 2), (some ⟨ga, 0, none⟩, be s 2, 2), (some ⟨gb, 0, none⟩, be d 4, 4), (A, l, k)] _ (by have h := viewB hS.ok 0 rfl; simp only [List.map_cons, List.map_nil, rowV, hl]; exact h) (seen_cons (viewB hS.ok 1 rfl) <| seen_cons (viewR hS.ok 3 rfl) <| seen_cons (viewR hS.ok 2 rfl) <| seen_cons (viewV hS.ok 5 rfl) seen_nil) rfl (by omega) (by rw [hjo, hlen]; omega)) ?_
      rintro e w ⟨Aj, mj, cj, hmj, rfl, hn, hk⟩
      refine ⟨_, rfl, ?_⟩
      rw [hjo] at hn hmj
      replace hS := hS.add hk hn -- +rowj
      clear hn hk
      refine hK _ _ ?_; clear hK K
      refine rg_take 17 rfl rfl (by kernel_rfl) (by kernel_rfl) (by kernel_rfl) (want_0) (fun w hok => x_assign (tmS rfl rfl)) ?_
      refine rg_done (oks_drop hS 5 rfl) (by kernel_rfl) ?_
      refine then_n (hK2 _ _ ?_); clear hK2 K2
      refine wp_ret ?_
      refine ret1 rfl (.tmp rfl (show _ = Value.slice _ _ _ from rfl)) ?_
      exact ⟨_, _, _, hmj, rfl, hS.new 0 rfl rfl, hS.kp⟩

set_option maxRecDepth 100000 in
set_option maxHeartbeats 8000000 in
theorem ricmp_check_c (t c s d : Nat) (A : Option Addr) (n k : Nat) (l : List Nat) (a b : Ad) (w0 : World) (hv : View w0 w0.heap.size A (l.map u8v)) (hl : l.length = n) (hb : Bytes l) (h6 : a.six = b.six) (hla : adLim a) (hlb : adLim b) (hn4 : n ≤ 60000) (h1 : t ≤ 255) (h2 : c ≤ 255) (h3 : s ≤ 65535) (h4 : d ≤ 4294967295) :
    Calls Try.prog 43 #[.agg (msgV t c s d A n k).toArray, .agg a.V.toArray, .agg b.V.toArray] w0 fun e w' => e = .returned (.int .u16 ((65535 - foldN (icS t c s d l a b) : Nat) : Int)) ∧ Kp [] w0 w' := by
  have hS := (St.sv w0).vcons rfl hv
  have hbl := icmpB_len t c s d l
  have hbb := icmpB_bytes t c s d hb
  refine ent (n := 23) Try.func43 rfl rfl ?_
  refine wp_seq_k ?_; intro K1 hK1
  refine wlit ?_
  refine wl_e rfl ?_; intro K hK
  refine ow_box hS (tmA rfl rfl) rfl ?_
  clear hS; intro g0_0 w hg0_0 hS
  refine hK _ _ ?_; clear hK K
  refine wl_e rfl ?_; intro K hK
  refine ow_box hS (tmA rfl rfl) rfl ?_
  clear hS; intro g0_1 w hg0_1 hS
  refine hK _ _ ?_; clear hK K
  refine wl_e rfl ?_; intro K hK
  refine ow_box hS (tmA rfl rfl) rfl ?_
  clear hS; intro g0_2 w hg0_2 hS
  refine hK _ _ ?_; clear hK K
  refine wl_v (x_assign (ev_cN 0)) ?_
  refine wl_nil ?_
  refine then_n (hK1 _ _ ?_); clear hK1 K1
  refine wp_seq_k ?_; intro K2 hK2
  refine wlit ?_
  refine wl_v (x_loadA (cs := [_, _, _, _, _]) Try.underlying44 rfl ts_44 (tmP rfl rfl) (rangeB hS.ok 2 rfl rfl)) ?_
  refine wl_e rfl ?_; intro K hK
  refine ow_call Try.func60 rfl rfl (evs_cons (tmA rfl rfl) <| evs_nil) (ricmp_bytes_c t c s d A n k l _ (viewV hS.ok 3 rfl) hl (by omega) h1 h2 h3 h4) ?_
  rintro e w ⟨A1, m1, c1, hm1, rfl, hn, hk⟩
  refine ⟨_, rfl, ?_⟩
  subst hm1
  replace hS := hS.add hk hn -- +rowb
  clear hn hk
  refine hK _ _ ?_; clear hK K
  refine wl_v (x_assign (tmS rfl rfl)) ?_
  refine wl_nil ?_
  refine then_n (hK2 _ _ ?_); clear hK2 K2
  refine wp_seq_k ?_; intro K3 hK3
  refine wp_seq_k ?_; intro K4 hK4
  refine wlit ?_
  refine wl_v (x_fa 0 Try.underlying26 rfl rfl ts_4 (tmP rfl rfl)) ?_
  refine wl_v (x_load Try.underlying4 rfl (tmP rfl rfl) (cellB hS.ok 2 rfl rfl)) ?_
  refine wl_nil ?_
  refine then_n (hK4 _ _ ?_); clear hK4 K4
  refine cnd (tm rfl) (fun hc0 => ?_) (fun hc0 => ?_)
  · skip
    try simp only [nrm] at hc0
    have ha6 : a.six = true := by simpa using hc0
    have hb6 : b.six = true := by rw [← h6]; exact ha6
    have hpl := ps6_len (p := 58) (n := (icmpB t c s d l).length) ha6 hb6
    have hje : ∀ (G1 G2 : Option Addr) (j1 j2 : Nat), joined [(G1, ps6 a b 58 (icmpB t c s d l).length, j1), (G2, icmpB t c s d l, j2)] = psL a b l.length ++ icmpB t c s d l := by
      intro G1 G2 j1 j2
      rw [joined_two, psL_six ha6, hbl]
    have hjl : (psL a b l.length ++ icmpB t c s d l).length = 40 + (8 + n) := by
      rw [List.length_append, psL_six ha6, ps6_len ha6 hb6]; omega
    have hjb : Bytes (psL a b l.length ++ icmpB t c s d l) := (psL_bytes _ _ _).append hbb
    have hsum := icS_joined t c s d l h6 _ rfl
    refine wp_seq_k ?_; intro K5 hK5
    refine wlit ?_
    refine wl_v (x_loadA (cs := [_, _, _]) Try.underlying26 rfl ts_26 (tmP rfl rfl) (rangeB hS.ok 2 rfl rfl)) ?_
    refine wl_v (x_loadA (cs := [_, _, _]) Try.underlying26 rfl ts_26 (tmP rfl rfl) (rangeB hS.ok 1 rfl rfl)) ?_
    refine wl_v (x_move (tmS rfl rfl)) ?_
    refine wl_v (x_len Try.underlying22 (tmS rfl rfl)) ?_
    refine wl_e rfl ?_; intro K hK
    refine ow_call Try.func58 rfl rfl (evs_cons (tmA rfl rfl) <| evs_cons (tmA rfl rfl) <| evs_cons (ev_cN 58) <| evs_cons (tmI rfl rfl) <| evs_nil) (rip6_pseudo6_c a b 58 (icmpB t c s d l).length _ ha6 hb6 hla hlb (by omega) (by omega)) ?_
    rintro e w ⟨A2, m2, c2, hm2, rfl, hn, hk⟩
    refine ⟨_, rfl, ?_⟩
    subst hm2
    replace hS := hS.add hk hn -- +rowp
    clear hn hk
    refine hK _ _ ?_; clear hK K
    refine wl_v (x_move (tmS rfl rfl)) ?_
    refine wl_e rfl ?_; intro K hK
    refine ow_build hS Try.underlying126 tz_22 (bc_take (tmS rfl rfl) <| bc_take (tmS rfl rfl) <| bc_nil) rfl rfl (by kernel_rfl) ?_
    clear hS; intro g3_6 w hg3_6 hS
    refine hK _ _ ?_; clear hK K
    refine wl_e rfl ?_; intro K hK
    refine ow_call Try.func57 rfl rfl (evs_cons (tmS rfl rfl) <| evs_nil) (join_c 2 _ _ [(A2, ps6 a b 58 (icmpB t c s d l).length, c2), (A1, icmpB t c s d l, c1)] _ (viewB hS.ok 0 rfl) (seen_cons (viewR hS.ok 1 rfl) <| seen_cons (viewR hS.ok 2 rfl) seen_nil) rfl (by omega) (by rw [hje, hjl]; omega)) ?_
    rintro e w ⟨A3, m3, c3, hm3, rfl, hn, hk⟩
    refine ⟨_, rfl, ?_⟩
    rw [hje] at hn hm3
    subst hm3
    replace hS := hS.add hk hn -- +rowj
    clear hn hk
    refine hK _ _ ?_; clear hK K
    refine wl_e rfl ?_; intro K hK
    refine ow_call Try.func56 rfl rfl (evs_cons (tmS rfl rfl) <| evs_nil) (rsum_of_c _ _ _ _ _ (viewR hS.ok 0 rfl) rfl hjb (by omega)) ?_
    rintro e w ⟨rfl, hk⟩
    refine ⟨_, rfl, ?_⟩
    rw [hsum]
    replace hS := hS.kept hk
    clear hk
    refine hK _ _ ?_; clear hK K
    refine wl_v (x_assign (tmI rfl rfl)) ?_
    refine wl_nil ?_
    refine then_n (hK5 _ _ ?_); clear hK5 K5
    refine wp_ret ?_
    refine then_r ?_
    refine ret1 rfl (.tmp rfl (show _ = Value.int _ _ from rfl)) ?_
    exact ⟨rfl, hS.kp⟩
  try simp only [nrm] at hc0
  have hsum := icS_joined t c s d l h6 _ rfl
  rw [psL_four (by simpa using hc0), List.nil_append] at hsum
  refine wp_skip ?_
  refine then_n (hK3 _ _ ?_); clear hK3 K3
  refine wp_seq_k ?_; intro K6 hK6
  refine wlit ?_
  refine wl_v (x_move (tmS rfl rfl)) ?_
  refine wl_e rfl ?_; intro K hK
  refine ow_call Try.func56 rfl rfl (evs_cons (tmS rfl rfl) <| evs_nil) (rsum_of_c _ _ _ _ _ (viewR hS.ok 0 rfl) rfl hbb (by omega)) ?_
  rintro e w ⟨rfl, hk⟩
  refine ⟨_, rfl, ?_⟩
  rw [hsum]
  replace hS := hS.kept hk
  clear hk
  refine hK _ _ ?_; clear hK K
  refine wl_v (x_assign (tmI rfl rfl)) ?_
  refine wl_nil ?_
  refine then_n (hK6 _ _ ?_); clear hK6 K6
  refine wp_ret ?_
  refine ret1 rfl (.tmp rfl (show _ = Value.int _ _ from rfl)) ?_
  exact ⟨rfl, hS.kp⟩

end Go.Proofs.Ytcobjneobdihkaa
/- udp: Parse and the reference's, the law's is and awake, by contract. Conditions: none but bounds. -/
namespace Go.Proofs.Ytcobjneobdihkaa
open Go.RowKit

def datV (sp dp sum : Nat) (L : Option Addr) (k d : Nat) : List Value := [.int .u16 (sp : Int), .int .u16 (dp : Int), .int .u16 (sum : Int), .slice L k d]

set_option maxRecDepth 100000 in
set_option maxHeartbeats 4000000 in
theorem udp_parse_c (n : Nat) (A : Option Addr) (c : Nat) (l : List Nat) (w0 : World) (hv : View w0 w0.heap.size A (l.map u8v)) (hl : l.length = n) (hb : Bytes l) (hn4 : n ≤ 1000000)
    (sz : Nat) (hsz : sz = getN l 4 2) (h0 : 8 ≤ n) (h1 : 8 ≤ sz) (h3 : sz ≤ n) :
    Calls Try.prog 79 #[.slice A n c] w0 fun e w' => ∃ L, e = .returned (.tuple #[.agg (datV (getN l 0 2) (getN l 2 2) (getN l 6 2) L (sz - 8) (sz - 8)).toArray, .int .i64 0]) ∧ NewV w0 w' L (((l.drop 8).take (sz - 8)).map u8v) ∧ Kp [] w0 w' := by
  have hS := (St.sv w0).vcons rfl hv
  have hz : getN l (0 + 2 + 2) 2 = sz := hsz.symm
  refine ent (n := 38) Try.func79 rfl rfl ?_
  refine wp_seq_k ?_; intro K1 hK1
  refine wlit ?_
  refine wl_e rfl ?_; intro K hK
  refine ow_alloc hS tz_50 rfl ?_
  clear hS; intro g0_0 w hg0_0 hS
  refine hK _ _ ?_; clear hK K
  refine wl_v (x_assign (ev_cN 0)) ?_
  refine wl_nil ?_
  refine then_n (hK1 _ _ ?_); clear hK1 K1
  refine wp_seq_k ?_; intro K2 hK2
  refine wp_seq_k ?_; intro K3 hK3
  refine wlit ?_
  refine wl_v (x_move (tmS rfl rfl)) ?_
  refine wl_v (x_len Try.underlying22 (tmS rfl rfl)) ?_
  refine wl_v (x_lss (tmI rfl rfl) (ev_cN 8)) ?_
  refine wl_nil ?_
  refine then_n (hK3 _ _ ?_); clear hK3 K3
  refine cnd (tm rfl) (fun hc0 => ?_) (fun hc0 => ?_)
  · exfalso
    simp only [nrm] at hc0
    omega
  try simp only [nrm] at hc0
  refine wp_skip ?_
  refine then_n (hK2 _ _ ?_); clear hK2 K2
  refine wp_seq_k ?_; intro K4 hK4
  refine wlit ?_
  refine wl_v (x_move (tmS rfl rfl)) ?_
  refine wl_e rfl ?_; intro K hK
  refine ow_call Try.func14 rfl rfl (evs_cons (tmS rfl rfl) <| evs_nil) (read_c n A c l _ (viewV hS.ok 1 rfl) hl hn4) ?_
  rintro e w ⟨gr, A0, rfl, hS2⟩
  refine ⟨_, rfl, ?_⟩
  replace hS := hS.adds hS2 rfl -- +gr,rowb
  clear hS2
  have hA : Off A0 0 n A0 := off_zero
  have hcp : n - 0 ≤ n := by omega
  refine hK _ _ ?_; clear hK K
  refine wl_v (x_assign (tmP rfl rfl)) ?_
  refine wl_nil ?_
  refine then_n (hK4 _ _ ?_); clear hK4 K4
  refine wp_seq_k ?_; intro K5 hK5
  refine wlit ?_
  refine wl_v (x_move (tmP rfl rfl)) ?_
  refine wl_e rfl ?_; intro K hK
  refine ow_call Try.func15 rfl rfl (evs_cons (tmP rfl rfl) <| evs_nil) (word_c gr A0 _ _ n _ l false _ _ (hS.enter [0] [1] rfl rfl) hA (by omega) hcp hl hb) ?_
  rintro e w ⟨A1, c1, rfl, hS2, hA, hcp⟩
  refine ⟨_, rfl, ?_⟩
  replace hS := hS.turn 0 rfl rfl hS2 rfl
  clear hS2
  try replace hS := St.nm (M' := [_, .row _ _ _ _ _, .blk _ _ [_, _, _, _], .vw _ _]) hS rfl
  refine hK _ _ ?_; clear hK K
  refine wl_v (x_move (tmP rfl rfl)) ?_
  refine wl_e rfl ?_; intro K hK
  refine ow_call Try.func15 rfl rfl (evs_cons (tmP rfl rfl) <| evs_nil) (word_c gr A0 _ _ n _ l false _ _ (hS.enter [0] [1] rfl rfl) hA (by omega) hcp hl hb) ?_
  rintro e w ⟨A1, c1, rfl, hS2, hA, hcp⟩
  refine ⟨_, rfl, ?_⟩
  replace hS := hS.turn 0 rfl rfl hS2 rfl
  clear hS2
  try replace hS := St.nm (M' := [_, .row _ _ _ _ _, .blk _ _ [_, _, _, _], .vw _ _]) hS rfl
  refine hK _ _ ?_; clear hK K
  refine wl_v (x_build (bc_take (tmI rfl rfl) <| bc_take (tmI rfl rfl) <| bc_skip (.int .u16 0) <| bc_skip (.slice none 0 0) <| bc_nil) (by kernel_rfl)) ?_
  refine wl_e rfl ?_; intro K hK
  refine ow_alloc hS tz_50 rfl ?_
  clear hS; intro g4_5 w hg4_5 hS
  refine hK _ _ ?_; clear hK K
  refine wl_e rfl ?_; intro K hK
  refine ow_storeA hS 0 rfl ts_50 (tmP rfl rfl) (tmA rfl rfl) rfl rfl rfl ?_
  clear hS; intro w hS
  try replace hS := St.nm (M' := [.blk _ _ [_, _, _, _], _, .row _ _ _ _ _, .blk _ _ [_, _, _, _], .vw _ _]) hS rfl
  refine hK _ _ ?_; clear hK K
  refine wl_nil ?_
  refine then_n (hK5 _ _ ?_); clear hK5 K5
  refine wp_seq_k ?_; intro K6 hK6
  refine wlit ?_
  refine wl_v (x_move (tmP rfl rfl)) ?_
  refine wl_e rfl ?_; intro K hK
  refine ow_call Try.func15 rfl rfl (evs_cons (tmP rfl rfl) <| evs_nil) (word_c gr A0 _ _ n _ l false _ _ (hS.enter [1] [2] rfl rfl) hA (by omega) hcp hl hb) ?_
  rintro e w ⟨A1, c1, rfl, hS2, hA, hcp⟩
  refine ⟨_, rfl, ?_⟩
  replace hS := hS.turn 1 rfl rfl hS2 rfl
  clear hS2
  try replace hS := St.nm (M' := [.blk _ _ [_, _, _, _], _, .row _ _ _ _ _, .blk _ _ [_, _, _, _], .vw _ _]) hS rfl
  refine hK _ _ ?_; clear hK K
  refine wl_v (x_convN Try.underlying27 Try.underlying3 (tmI rfl rfl) (fit_i64 (by omega))) ?_
  refine wl_v (x_assign (tmI rfl (congrArg (fun q : Nat => Value.int .i64 (q : Int)) hz))) ?_
  refine wl_nil ?_
  refine then_n (hK6 _ _ ?_); clear hK6 K6
  refine wp_seq_k ?_; intro K7 hK7
  refine wp_seq_k ?_; intro K8 hK8
  refine wlit ?_
  refine wl_v (x_move (tmI rfl rfl)) ?_
  refine wl_v (x_lss (tmI rfl rfl) (ev_cN 8)) ?_
  refine wl_nil ?_
  refine then_n (hK8 _ _ ?_); clear hK8 K8
  refine cnd (tm rfl) (fun hc1 => ?_) (fun hc1 => ?_)
  · exfalso
    simp only [nrm] at hc1
    omega
  try simp only [nrm] at hc1
  refine wp_skip ?_
  refine then_n (hK7 _ _ ?_); clear hK7 K7
  refine wp_seq_k ?_; intro K9 hK9
  refine wp_seq_k ?_; intro K10 hK10
  refine wlit ?_
  refine wl_v (x_move (tmI rfl rfl)) ?_
  refine wl_v (x_move (tmS rfl rfl)) ?_
  refine wl_v (x_len Try.underlying22 (tmS rfl rfl)) ?_
  refine wl_v (x_gtr (tmI rfl rfl) (tmI rfl rfl)) ?_
  refine wl_nil ?_
  refine then_n (hK10 _ _ ?_); clear hK10 K10
  refine cnd (tm rfl) (fun hc2 => ?_) (fun hc2 => ?_)
  · exfalso
    simp only [nrm] at hc2
    omega
  try simp only [nrm] at hc2
  refine wp_skip ?_
  refine then_n (hK9 _ _ ?_); clear hK9 K9
  refine wp_seq_k ?_; intro K11 hK11
  refine wlit ?_
  refine wl_v (x_move (tmP rfl rfl)) ?_
  refine wl_e rfl ?_; intro K hK
  refine ow_call Try.func15 rfl rfl (evs_cons (tmP rfl rfl) <| evs_nil) (word_c gr A0 _ _ n _ l false _ _ (hS.enter [1] [2] rfl rfl) hA (by omega) hcp hl hb) ?_
  rintro e w ⟨A1, c1, rfl, hS2, hA, hcp⟩
  refine ⟨_, rfl, ?_⟩
  replace hS := hS.turn 1 rfl rfl hS2 rfl
  clear hS2
  try replace hS := St.nm (M' := [.blk _ _ [_, _, _, _], _, .row _ _ _ _ _, .blk _ _ [_, _, _, _], .vw _ _]) hS rfl
  refine hK _ _ ?_; clear hK K
  refine wl_v (x_fa 2 Try.underlying50 rfl rfl ts_27 (tmP rfl rfl)) ?_
  refine wl_e rfl ?_; intro K hK
  refine ow_store hS 0 rfl ts_27 (tmP rfl rfl) (tmI rfl rfl) rfl rfl ?_
  clear hS; intro w hS
  try replace hS := St.nm (M' := [.blk _ _ [_, _, _, _], _, .row _ _ _ _ _, .blk _ _ [_, _, _, _], .vw _ _]) hS rfl
  refine hK _ _ ?_; clear hK K
  refine wl_nil ?_
  refine then_n (hK11 _ _ ?_); clear hK11 K11
  refine wp_seq_k ?_; intro K12 hK12
  refine wlit ?_
  refine wl_v (x_move (tmP rfl rfl)) ?_
  refine wl_v (x_move (tmI rfl rfl)) ?_
  refine wl_v (x_subN (tmI rfl rfl) (ev_cN 8) (fit_i64 (by omega)) (by omega)) ?_
  refine wl_e rfl ?_; intro K hK
  refine ow_call Try.func29 rfl rfl (evs_cons (tmP rfl rfl) <| evs_cons (tmI rfl rfl) <| evs_nil) (bytes_c gr A0 A1 _ (sz - 8) n _ l false _ _ (hS.enter [1] [2] rfl rfl) hA (by omega) hcp) ?_
  rintro e w ⟨A2, c2, rfl, hS2, hA2, hcp2⟩
  refine ⟨_, rfl, ?_⟩
  replace hS := hS.turn 1 rfl rfl hS2 rfl
  clear hS2
  try replace hS := St.nm (M' := [.blk _ _ [_, _, _, _], _, .row _ _ _ _ _, .blk _ _ [_, _, _, _], .vw _ _]) hS rfl
  refine hK _ _ ?_; clear hK K
  refine wl_v (x_fa 3 Try.underlying50 rfl rfl ts_22 (tmP rfl rfl)) ?_
  refine wl_e rfl ?_; intro K hK
  refine ow_store hS 0 rfl ts_22 (tmP rfl rfl) (tmS rfl rfl) rfl rfl ?_
  clear hS; intro w hS
  try replace hS := St.nm (M' := [.blk _ _ [_, _, _, _], _, .row _ _ _ _ _, .blk _ _ [_, _, _, _], .vw _ _]) hS rfl
  refine hK _ _ ?_; clear hK K
  refine wl_nil ?_
  refine then_n (hK12 _ _ ?_); clear hK12 K12
  refine wp_seq_k ?_; intro K13 hK13
  refine wlit ?_
  refine wl_v (x_loadA (cs := [_, _, _, _]) Try.underlying50 rfl ts_50 (tmP rfl rfl) (rangeB hS.ok 0 rfl rfl)) ?_
  refine wl_e rfl ?_; intro K hK
  refine ow_storeA hS 3 rfl ts_50 (tmP rfl rfl) (tmA rfl rfl) rfl rfl rfl ?_
  clear hS; intro w hS
  try replace hS := St.nm (M' := [.blk _ _ [_, _, _, _], _, .row _ _ _ _ _, .blk _ _ [_, _, _, _], .vw _ _]) hS rfl
  refine hK _ _ ?_; clear hK K
  refine wl_v (x_assign (ev_cN 0)) ?_
  refine wl_nil ?_
  refine then_n (hK13 _ _ ?_); clear hK13 K13
  refine wp_ret ?_
  refine ret2 rfl (.cell rfl rfl (load_rowB (cs := [_, _, _, _]) hS.ok 3 rfl Try.underlying50 rfl ts_50 rfl)) (.tmp rfl (show _ = Value.int _ _ from rfl)) ?_
  exact ⟨A1, rfl, NewV.offb (hS.newv 2 rfl) hl hA (sz - 8), hS.kp⟩
set_option maxRecDepth 100000 in
set_option maxHeartbeats 4000000 in
theorem udp_parse_bad (n : Nat) (A : Option Addr) (c : Nat) (l : List Nat) (w0 : World) (hv : View w0 w0.heap.size A (l.map u8v)) (hl : l.length = n) (hc : n ≤ c) (hb : Bytes l) (hn4 : n ≤ 1000000)
    (sz er : Nat) (hsz : sz = getN l 4 2) (h : (n < 8 ∧ er = 20) ∨ (8 ≤ n ∧ sz < 8 ∧ er = 21) ∨ (8 ≤ n ∧ 8 ≤ sz ∧ n < sz ∧ er = 20)) :
    Calls Try.prog 79 #[.slice A n c] w0 fun e w' => e = .returned (.tuple #[.agg (datV 0 0 0 none 0 0).toArray, .int .i64 (er : Int)]) ∧ Kp [] w0 w' := by
  have hS := (St.sv w0).vcons rfl hv
  have hqb := getN_lt hb 4 2
  have hz : getN l (0 + 2 + 2) 2 = sz := hsz.symm
  by_cases h20 : n < 8
  · skip
    refine ent (n := 38) Try.func79 rfl rfl ?_
    refine wp_seq_k ?_; intro K1 hK1
    refine wlit ?_
    refine wl_e rfl ?_; intro K hK
    refine ow_alloc hS tz_50 rfl ?_
    clear hS; intro g0_0 w hg0_0 hS
    refine hK _ _ ?_; clear hK K
    refine wl_v (x_assign (ev_cN 0)) ?_
    refine wl_nil ?_
    refine then_n (hK1 _ _ ?_); clear hK1 K1
    refine wp_seq_k ?_; intro K2 hK2
    refine wp_seq_k ?_; intro K3 hK3
    refine wlit ?_
    refine wl_v (x_move (tmS rfl rfl)) ?_
    refine wl_v (x_len Try.underlying22 (tmS rfl rfl)) ?_
    refine wl_v (x_lss (tmI rfl rfl) (ev_cN 8)) ?_
    refine wl_nil ?_
    refine then_n (hK3 _ _ ?_); clear hK3 K3
    refine cnds (tm rfl) (fun hc0 => ?_) (fun hc0 => ?_)
    · exfalso
      simp only [nrm] at hc0
      omega
    try simp only [nrm] at hc0
    refine wp_seq_k ?_; intro K4 hK4
    refine wlit ?_
    refine wl_v (x_build (bc_skip (.int .u16 0) <| bc_skip (.int .u16 0) <| bc_skip (.int .u16 0) <| bc_skip (.slice none 0 0) <| bc_nil) (by kernel_rfl)) ?_
    refine wl_e rfl ?_; intro K hK
    refine ow_storeA hS 0 rfl ts_50 (tmP rfl rfl) (tmA rfl rfl) rfl rfl rfl ?_
    clear hS; intro w hS
    try replace hS := St.nm (M' := [.blk _ _ [_, _, _, _], .vw _ _]) hS rfl
    refine hK _ _ ?_; clear hK K
    refine wl_v (x_assign (ev_cN 20)) ?_
    refine wl_nil ?_
    refine then_n (hK4 _ _ ?_); clear hK4 K4
    refine wp_ret ?_
    refine then_r ?_
    refine ret2 rfl (.cell rfl rfl (load_rowB (cs := [_, _, _, _]) hS.ok 0 rfl Try.underlying50 rfl ts_50 rfl)) (.tmp rfl (show _ = Value.int _ _ from rfl)) ?_
    obtain rfl : er = 20 := by omega
    exact ⟨rfl, hS.kp⟩
  refine ent (n := 38) Try.func79 rfl rfl ?_
  refine wp_seq_k ?_; intro K1 hK1
  refine wlit ?_
  refine wl_e rfl ?_; intro K hK
  refine ow_alloc hS tz_50 rfl ?_
  clear hS; intro g0_0 w hg0_0 hS
  refine hK _ _ ?_; clear hK K
  refine wl_v (x_assign (ev_cN 0)) ?_
  refine wl_nil ?_
  refine then_n (hK1 _ _ ?_); clear hK1 K1
  refine wp_seq_k ?_; intro K2 hK2
  refine wp_seq_k ?_; intro K3 hK3
  refine wlit ?_
  refine wl_v (x_move (tmS rfl rfl)) ?_
  refine wl_v (x_len Try.underlying22 (tmS rfl rfl)) ?_
  refine wl_v (x_lss (tmI rfl rfl) (ev_cN 8)) ?_
  refine wl_nil ?_
  refine then_n (hK3 _ _ ?_); clear hK3 K3
  refine cnd (tm rfl) (fun hc0 => ?_) (fun hc0 => ?_)
  · exfalso
    simp only [nrm] at hc0
    omega
  try simp only [nrm] at hc0
  refine wp_skip ?_
  refine then_n (hK2 _ _ ?_); clear hK2 K2
  refine wp_seq_k ?_; intro K4 hK4
  refine wlit ?_
  refine wl_v (x_move (tmS rfl rfl)) ?_
  refine wl_e rfl ?_; intro K hK
  refine ow_call Try.func14 rfl rfl (evs_cons (tmS rfl rfl) <| evs_nil) (read_c n A c l _ (viewV hS.ok 1 rfl) hl hn4) ?_
  rintro e w ⟨gr, A0, rfl, hS2⟩
  refine ⟨_, rfl, ?_⟩
  replace hS := hS.adds hS2 rfl -- +gr,rowb
  clear hS2
  have hA : Off A0 0 n A0 := off_zero
  have hcp : n - 0 ≤ n := by omega
  refine hK _ _ ?_; clear hK K
  refine wl_v (x_assign (tmP rfl rfl)) ?_
  refine wl_nil ?_
  refine then_n (hK4 _ _ ?_); clear hK4 K4
  refine wp_seq_k ?_; intro K5 hK5
  refine wlit ?_
  refine wl_v (x_move (tmP rfl rfl)) ?_
  refine wl_e rfl ?_; intro K hK
  refine ow_call Try.func15 rfl rfl (evs_cons (tmP rfl rfl) <| evs_nil) (word_c gr A0 _ _ n _ l false _ _ (hS.enter [0] [1] rfl rfl) hA (by omega) hcp hl hb) ?_
  rintro e w ⟨A1, c1, rfl, hS2, hA, hcp⟩
  refine ⟨_, rfl, ?_⟩
  replace hS := hS.turn 0 rfl rfl hS2 rfl
  clear hS2
  try replace hS := St.nm (M' := [_, .row _ _ _ _ _, .blk _ _ [_, _, _, _], .vw _ _]) hS rfl
  refine hK _ _ ?_; clear hK K
  refine wl_v (x_move (tmP rfl rfl)) ?_
  refine wl_e rfl ?_; intro K hK
  refine ow_call Try.func15 rfl rfl (evs_cons (tmP rfl rfl) <| evs_nil) (word_c gr A0 _ _ n _ l false _ _ (hS.enter [0] [1] rfl rfl) hA (by omega) hcp hl hb) ?_
  rintro e w ⟨A1, c1, rfl, hS2, hA, hcp⟩
  refine ⟨_, rfl, ?_⟩
  replace hS := hS.turn 0 rfl rfl hS2 rfl
  clear hS2
  try replace hS := St.nm (M' := [_, .row _ _ _ _ _, .blk _ _ [_, _, _, _], .vw _ _]) hS rfl
  refine hK _ _ ?_; clear hK K
  refine wl_v (x_build (bc_take (tmI rfl rfl) <| bc_take (tmI rfl rfl) <| bc_skip (.int .u16 0) <| bc_skip (.slice none 0 0) <| bc_nil) (by kernel_rfl)) ?_
  refine wl_e rfl ?_; intro K hK
  refine ow_alloc hS tz_50 rfl ?_
  clear hS; intro g4_5 w hg4_5 hS
  refine hK _ _ ?_; clear hK K
  refine wl_e rfl ?_; intro K hK
  refine ow_storeA hS 0 rfl ts_50 (tmP rfl rfl) (tmA rfl rfl) rfl rfl rfl ?_
  clear hS; intro w hS
  try replace hS := St.nm (M' := [.blk _ _ [_, _, _, _], _, .row _ _ _ _ _, .blk _ _ [_, _, _, _], .vw _ _]) hS rfl
  refine hK _ _ ?_; clear hK K
  refine wl_nil ?_
  refine then_n (hK5 _ _ ?_); clear hK5 K5
  refine wp_seq_k ?_; intro K6 hK6
  refine wlit ?_
  refine wl_v (x_move (tmP rfl rfl)) ?_
  refine wl_e rfl ?_; intro K hK
  refine ow_call Try.func15 rfl rfl (evs_cons (tmP rfl rfl) <| evs_nil) (word_c gr A0 _ _ n _ l false _ _ (hS.enter [1] [2] rfl rfl) hA (by omega) hcp hl hb) ?_
  rintro e w ⟨A1, c1, rfl, hS2, hA, hcp⟩
  refine ⟨_, rfl, ?_⟩
  replace hS := hS.turn 1 rfl rfl hS2 rfl
  clear hS2
  try replace hS := St.nm (M' := [.blk _ _ [_, _, _, _], _, .row _ _ _ _ _, .blk _ _ [_, _, _, _], .vw _ _]) hS rfl
  refine hK _ _ ?_; clear hK K
  refine wl_v (x_convN Try.underlying27 Try.underlying3 (tmI rfl rfl) (fit_i64 (by omega))) ?_
  refine wl_v (x_assign (tmI rfl (congrArg (fun q : Nat => Value.int .i64 (q : Int)) hz))) ?_
  refine wl_nil ?_
  refine then_n (hK6 _ _ ?_); clear hK6 K6
  refine wp_seq_k ?_; intro K7 hK7
  refine wp_seq_k ?_; intro K8 hK8
  refine wlit ?_
  refine wl_v (x_move (tmI rfl rfl)) ?_
  refine wl_v (x_lss (tmI rfl rfl) (ev_cN 8)) ?_
  refine wl_nil ?_
  refine then_n (hK8 _ _ ?_); clear hK8 K8
  refine cnd (tm rfl) (fun hc1 => ?_) (fun hc1 => ?_)
  · skip
    try simp only [nrm] at hc1
    refine wp_seq_k ?_; intro K9 hK9
    refine wlit ?_
    refine wl_v (x_build (bc_skip (.int .u16 0) <| bc_skip (.int .u16 0) <| bc_skip (.int .u16 0) <| bc_skip (.slice none 0 0) <| bc_nil) (by kernel_rfl)) ?_
    refine wl_e rfl ?_; intro K hK
    refine ow_storeA hS 3 rfl ts_50 (tmP rfl rfl) (tmA rfl rfl) rfl rfl rfl ?_
    clear hS; intro w hS
    try replace hS := St.nm (M' := [.blk _ _ [_, _, _, _], _, .row _ _ _ _ _, .blk _ _ [_, _, _, _], .vw _ _]) hS rfl
    refine hK _ _ ?_; clear hK K
    refine wl_v (x_assign (ev_cN 21)) ?_
    refine wl_nil ?_
    refine then_n (hK9 _ _ ?_); clear hK9 K9
    refine wp_ret ?_
    refine then_r ?_
    refine ret2 rfl (.cell rfl rfl (load_rowB (cs := [_, _, _, _]) hS.ok 3 rfl Try.underlying50 rfl ts_50 rfl)) (.tmp rfl (show _ = Value.int _ _ from rfl)) ?_
    first
      | (obtain rfl : er = 20 := by omega
         exact ⟨rfl, hS.kp⟩)
      | (obtain rfl : er = 21 := by omega
         exact ⟨rfl, hS.kp⟩)
  try simp only [nrm] at hc1
  refine wp_skip ?_
  refine then_n (hK7 _ _ ?_); clear hK7 K7
  refine wp_seq_k ?_; intro K11 hK11
  refine wp_seq_k ?_; intro K12 hK12
  refine wlit ?_
  refine wl_v (x_move (tmI rfl rfl)) ?_
  refine wl_v (x_move (tmS rfl rfl)) ?_
  refine wl_v (x_len Try.underlying22 (tmS rfl rfl)) ?_
  refine wl_v (x_gtr (tmI rfl rfl) (tmI rfl rfl)) ?_
  refine wl_nil ?_
  refine then_n (hK12 _ _ ?_); clear hK12 K12
  refine cnds (tm rfl) (fun hc2 => ?_) (fun hc2 => ?_)
  · exfalso
    simp only [nrm] at hc2
    omega
  try simp only [nrm] at hc2
  refine wp_seq_k ?_; intro K13 hK13
  refine wlit ?_
  refine wl_v (x_build (bc_skip (.int .u16 0) <| bc_skip (.int .u16 0) <| bc_skip (.int .u16 0) <| bc_skip (.slice none 0 0) <| bc_nil) (by kernel_rfl)) ?_
  refine wl_e rfl ?_; intro K hK
  refine ow_storeA hS 3 rfl ts_50 (tmP rfl rfl) (tmA rfl rfl) rfl rfl rfl ?_
  clear hS; intro w hS
  try replace hS := St.nm (M' := [.blk _ _ [_, _, _, _], _, .row _ _ _ _ _, .blk _ _ [_, _, _, _], .vw _ _]) hS rfl
  refine hK _ _ ?_; clear hK K
  refine wl_v (x_assign (ev_cN 20)) ?_
  refine wl_nil ?_
  refine then_n (hK13 _ _ ?_); clear hK13 K13
  refine wp_ret ?_
  refine then_r ?_
  refine ret2 rfl (.cell rfl rfl (load_rowB (cs := [_, _, _, _]) hS.ok 3 rfl Try.underlying50 rfl ts_50 rfl)) (.tmp rfl (show _ = Value.int _ _ from rfl)) ?_
  first
    | (obtain rfl : er = 20 := by omega
       exact ⟨rfl, hS.kp⟩)
    | (obtain rfl : er = 21 := by omega
       exact ⟨rfl, hS.kp⟩)

set_option maxRecDepth 100000 in
set_option maxHeartbeats 4000000 in
theorem rudp_parse_bad (n : Nat) (A : Option Addr) (c : Nat) (l : List Nat) (w0 : World) (hv : View w0 w0.heap.size A (l.map u8v)) (hl : l.length = n) (hc : n ≤ c) (hb : Bytes l) (hn4 : n ≤ 1000000)
    (sz er : Nat) (hsz : sz = getN l 4 2) (h : (n < 8 ∧ er = 20) ∨ (8 ≤ n ∧ sz < 8 ∧ er = 21) ∨ (8 ≤ n ∧ 8 ≤ sz ∧ n < sz ∧ er = 20)) :
    Calls Try.prog 40 #[.slice A n c] w0 fun e w' => e = .returned (.tuple #[.agg (datV 0 0 0 none 0 0).toArray, .int .i64 (er : Int)]) ∧ Kp [] w0 w' := by
  have hS := (St.sv w0).vcons rfl hv
  have hqb := getN_lt hb 4 2
  have hz : getN l 4 2 = sz := hsz.symm
  by_cases h20 : n < 8
  · skip
    refine ent (n := 35) Try.func40 rfl rfl ?_
    refine wp_seq_k ?_; intro K1 hK1
    refine wlit ?_
    refine wl_e rfl ?_; intro K hK
    refine ow_alloc hS tz_42 rfl ?_
    clear hS; intro g0_0 w hg0_0 hS
    refine hK _ _ ?_; clear hK K
    refine wl_v (x_assign (ev_cN 0)) ?_
    refine wl_nil ?_
    refine then_n (hK1 _ _ ?_); clear hK1 K1
    refine wp_seq_k ?_; intro K2 hK2
    refine wp_seq_k ?_; intro K3 hK3
    refine wlit ?_
    refine wl_v (x_move (tmS rfl rfl)) ?_
    refine wl_v (x_len Try.underlying22 (tmS rfl rfl)) ?_
    refine wl_v (x_lss (tmI rfl rfl) (ev_cN 8)) ?_
    refine wl_nil ?_
    refine then_n (hK3 _ _ ?_); clear hK3 K3
    refine cnds (tm rfl) (fun hc0 => ?_) (fun hc0 => ?_)
    · exfalso
      simp only [nrm] at hc0
      omega
    try simp only [nrm] at hc0
    refine wp_seq_k ?_; intro K4 hK4
    refine wlit ?_
    refine wl_v (x_build (bc_skip (.int .u16 0) <| bc_skip (.int .u16 0) <| bc_skip (.int .u16 0) <| bc_skip (.slice none 0 0) <| bc_nil) (by kernel_rfl)) ?_
    refine wl_e rfl ?_; intro K hK
    refine ow_storeA hS 0 rfl ts_42 (tmP rfl rfl) (tmA rfl rfl) rfl rfl rfl ?_
    clear hS; intro w hS
    try replace hS := St.nm (M' := [.blk _ _ [_, _, _, _], .vw _ _]) hS rfl
    refine hK _ _ ?_; clear hK K
    refine wl_v (x_assign (ev_cN 20)) ?_
    refine wl_nil ?_
    refine then_n (hK4 _ _ ?_); clear hK4 K4
    refine wp_ret ?_
    refine then_r ?_
    refine ret2 rfl (.cell rfl rfl (load_rowB (cs := [_, _, _, _]) hS.ok 0 rfl Try.underlying42 rfl ts_42 rfl)) (.tmp rfl (show _ = Value.int _ _ from rfl)) ?_
    obtain rfl : er = 20 := by omega
    exact ⟨rfl, hS.kp⟩
  refine ent (n := 35) Try.func40 rfl rfl ?_
  refine wp_seq_k ?_; intro K1 hK1
  refine wlit ?_
  refine wl_e rfl ?_; intro K hK
  refine ow_alloc hS tz_42 rfl ?_
  clear hS; intro g0_0 w hg0_0 hS
  refine hK _ _ ?_; clear hK K
  refine wl_v (x_assign (ev_cN 0)) ?_
  refine wl_nil ?_
  refine then_n (hK1 _ _ ?_); clear hK1 K1
  refine wp_seq_k ?_; intro K2 hK2
  refine wp_seq_k ?_; intro K3 hK3
  refine wlit ?_
  refine wl_v (x_move (tmS rfl rfl)) ?_
  refine wl_v (x_len Try.underlying22 (tmS rfl rfl)) ?_
  refine wl_v (x_lss (tmI rfl rfl) (ev_cN 8)) ?_
  refine wl_nil ?_
  refine then_n (hK3 _ _ ?_); clear hK3 K3
  refine cnd (tm rfl) (fun hc0 => ?_) (fun hc0 => ?_)
  · exfalso
    simp only [nrm] at hc0
    omega
  try simp only [nrm] at hc0
  refine wp_skip ?_
  refine then_n (hK2 _ _ ?_); clear hK2 K2
  refine wp_seq_k ?_; intro K4 hK4
  refine wlit ?_
  refine wl_v (x_move (tmS rfl rfl)) ?_
  refine wl_e rfl ?_; intro K hK
  refine ow_call Try.func17 rfl rfl (evs_cons (tmS rfl rfl) <| evs_cons (ev_cN 4) <| evs_cons (ev_cN 2) <| evs_nil) (get_c n _ c l _ _ _ (viewV hS.ok 1 rfl) hl hc hn4 hb (by omega) (by omega)) ?_
  rintro e w ⟨rfl, hk⟩
  refine ⟨_, rfl, ?_⟩
  replace hS := hS.kept hk
  clear hk
  refine hK _ _ ?_; clear hK K
  refine wl_v (x_convN Try.underlying24 Try.underlying3 (tmI rfl rfl) (fit_i64 (by omega))) ?_
  refine wl_v (x_assign (tmI rfl (congrArg (fun q : Nat => Value.int .i64 (q : Int)) hz))) ?_
  refine wl_nil ?_
  refine then_n (hK4 _ _ ?_); clear hK4 K4
  refine wp_seq_k ?_; intro K5 hK5
  refine wp_seq_k ?_; intro K6 hK6
  refine wlit ?_
  refine wl_v (x_move (tmI rfl rfl)) ?_
  refine wl_v (x_lss (tmI rfl rfl) (ev_cN 8)) ?_
  refine wl_nil ?_
  refine then_n (hK6 _ _ ?_); clear hK6 K6
  refine cnd (tm rfl) (fun hc1 => ?_) (fun hc1 => ?_)
  · skip
    try simp only [nrm] at hc1
    refine wp_seq_k ?_; intro K7 hK7
    refine wlit ?_
    refine wl_v (x_build (bc_skip (.int .u16 0) <| bc_skip (.int .u16 0) <| bc_skip (.int .u16 0) <| bc_skip (.slice none 0 0) <| bc_nil) (by kernel_rfl)) ?_
    refine wl_e rfl ?_; intro K hK
    refine ow_storeA hS 0 rfl ts_42 (tmP rfl rfl) (tmA rfl rfl) rfl rfl rfl ?_
    clear hS; intro w hS
    try replace hS := St.nm (M' := [.blk _ _ [_, _, _, _], .vw _ _]) hS rfl
    refine hK _ _ ?_; clear hK K
    refine wl_v (x_assign (ev_cN 21)) ?_
    refine wl_nil ?_
    refine then_n (hK7 _ _ ?_); clear hK7 K7
    refine wp_ret ?_
    refine then_r ?_
    refine ret2 rfl (.cell rfl rfl (load_rowB (cs := [_, _, _, _]) hS.ok 0 rfl Try.underlying42 rfl ts_42 rfl)) (.tmp rfl (show _ = Value.int _ _ from rfl)) ?_
    first
      | (obtain rfl : er = 20 := by omega
         exact ⟨rfl, hS.kp⟩)
      | (obtain rfl : er = 21 := by omega
         exact ⟨rfl, hS.kp⟩)
  try simp only [nrm] at hc1
  refine wp_skip ?_
  refine then_n (hK5 _ _ ?_); clear hK5 K5
  refine wp_seq_k ?_; intro K9 hK9
  refine wp_seq_k ?_; intro K10 hK10
  refine wlit ?_
  refine wl_v (x_move (tmI rfl rfl)) ?_
  refine wl_v (x_move (tmS rfl rfl)) ?_
  refine wl_v (x_len Try.underlying22 (tmS rfl rfl)) ?_
  refine wl_v (x_gtr (tmI rfl rfl) (tmI rfl rfl)) ?_
  refine wl_nil ?_
  refine then_n (hK10 _ _ ?_); clear hK10 K10
  refine cnds (tm rfl) (fun hc2 => ?_) (fun hc2 => ?_)
  · exfalso
    simp only [nrm] at hc2
    omega
  try simp only [nrm] at hc2
  refine wp_seq_k ?_; intro K11 hK11
  refine wlit ?_
  refine wl_v (x_build (bc_skip (.int .u16 0) <| bc_skip (.int .u16 0) <| bc_skip (.int .u16 0) <| bc_skip (.slice none 0 0) <| bc_nil) (by kernel_rfl)) ?_
  refine wl_e rfl ?_; intro K hK
  refine ow_storeA hS 0 rfl ts_42 (tmP rfl rfl) (tmA rfl rfl) rfl rfl rfl ?_
  clear hS; intro w hS
  try replace hS := St.nm (M' := [.blk _ _ [_, _, _, _], .vw _ _]) hS rfl
  refine hK _ _ ?_; clear hK K
  refine wl_v (x_assign (ev_cN 20)) ?_
  refine wl_nil ?_
  refine then_n (hK11 _ _ ?_); clear hK11 K11
  refine wp_ret ?_
  refine then_r ?_
  refine ret2 rfl (.cell rfl rfl (load_rowB (cs := [_, _, _, _]) hS.ok 0 rfl Try.underlying42 rfl ts_42 rfl)) (.tmp rfl (show _ = Value.int _ _ from rfl)) ?_
  first
    | (obtain rfl : er = 20 := by omega
       exact ⟨rfl, hS.kp⟩)
    | (obtain rfl : er = 21 := by omega
       exact ⟨rfl, hS.kp⟩)

set_option maxRecDepth 100000 in
set_option maxHeartbeats 4000000 in
theorem rudp_parse_c (n : Nat) (A : Option Addr) (c : Nat) (l : List Nat) (w0 : World) (hv : View w0 w0.heap.size A (l.map u8v)) (hl : l.length = n) (hc : n ≤ c) (hb : Bytes l) (hn4 : n ≤ 1000000)
    (sz : Nat) (hsz : sz = getN l 4 2) (h0 : 8 ≤ n) (h1 : 8 ≤ sz) (h3 : sz ≤ n) :
    Calls Try.prog 40 #[.slice A n c] w0 fun e w' => ∃ L d, e = .returned (.tuple #[.agg (datV (getN l 0 2) (getN l 2 2) (getN l 6 2) L (sz - 8) d).toArray, .int .i64 0]) ∧ NewV w0 w' L (((l.drop 8).take (sz - 8)).map u8v) ∧ Kp [] w0 w' := by
  have hS := (St.sv w0).vcons rfl hv
  have hz : getN l 4 2 = sz := hsz.symm
  have hqb := getN_lt hb 4 2
  have hq0 := getN_lt hb 0 2
  have hq2 := getN_lt hb 2 2
  have hq6 := getN_lt hb 6 2
  refine ent (n := 35) Try.func40 rfl rfl ?_
  refine wp_seq_k ?_; intro K1 hK1
  refine wlit ?_
  refine wl_e rfl ?_; intro K hK
  refine ow_alloc hS tz_42 rfl ?_
  clear hS; intro g0_0 w hg0_0 hS
  refine hK _ _ ?_; clear hK K
  refine wl_v (x_assign (ev_cN 0)) ?_
  refine wl_nil ?_
  refine then_n (hK1 _ _ ?_); clear hK1 K1
  refine wp_seq_k ?_; intro K2 hK2
  refine wp_seq_k ?_; intro K3 hK3
  refine wlit ?_
  refine wl_v (x_move (tmS rfl rfl)) ?_
  refine wl_v (x_len Try.underlying22 (tmS rfl rfl)) ?_
  refine wl_v (x_lss (tmI rfl rfl) (ev_cN 8)) ?_
  refine wl_nil ?_
  refine then_n (hK3 _ _ ?_); clear hK3 K3
  refine cnd (tm rfl) (fun hc0 => ?_) (fun hc0 => ?_)
  · exfalso
    simp only [nrm] at hc0
    omega
  try simp only [nrm] at hc0
  refine wp_skip ?_
  refine then_n (hK2 _ _ ?_); clear hK2 K2
  refine wp_seq_k ?_; intro K4 hK4
  refine wlit ?_
  refine wl_v (x_move (tmS rfl rfl)) ?_
  refine wl_e rfl ?_; intro K hK
  refine ow_call Try.func17 rfl rfl (evs_cons (tmS rfl rfl) <| evs_cons (ev_cN 4) <| evs_cons (ev_cN 2) <| evs_nil) (get_c n _ c l _ _ _ (viewV hS.ok 1 rfl) hl hc hn4 hb (by omega) (by omega)) ?_
  rintro e w ⟨rfl, hk⟩
  refine ⟨_, rfl, ?_⟩
  replace hS := hS.kept hk
  clear hk
  refine hK _ _ ?_; clear hK K
  refine wl_v (x_convN Try.underlying24 Try.underlying3 (tmI rfl rfl) (fit_i64 (by omega))) ?_
  refine wl_v (x_assign (tmI rfl (congrArg (fun q : Nat => Value.int .i64 (q : Int)) hz))) ?_
  refine wl_nil ?_
  refine then_n (hK4 _ _ ?_); clear hK4 K4
  refine wp_seq_k ?_; intro K5 hK5
  refine wp_seq_k ?_; intro K6 hK6
  refine wlit ?_
  refine wl_v (x_move (tmI rfl rfl)) ?_
  refine wl_v (x_lss (tmI rfl rfl) (ev_cN 8)) ?_
  refine wl_nil ?_
  refine then_n (hK6 _ _ ?_); clear hK6 K6
  refine cnd (tm rfl) (fun hc1 => ?_) (fun hc1 => ?_)
  · exfalso
    simp only [nrm] at hc1
    omega
  try simp only [nrm] at hc1
  refine wp_skip ?_
  refine then_n (hK5 _ _ ?_); clear hK5 K5
  refine wp_seq_k ?_; intro K7 hK7
  refine wp_seq_k ?_; intro K8 hK8
  refine wlit ?_
  refine wl_v (x_move (tmI rfl rfl)) ?_
  refine wl_v (x_move (tmS rfl rfl)) ?_
  refine wl_v (x_len Try.underlying22 (tmS rfl rfl)) ?_
  refine wl_v (x_gtr (tmI rfl rfl) (tmI rfl rfl)) ?_
  refine wl_nil ?_
  refine then_n (hK8 _ _ ?_); clear hK8 K8
  refine cnd (tm rfl) (fun hc2 => ?_) (fun hc2 => ?_)
  · exfalso
    simp only [nrm] at hc2
    omega
  try simp only [nrm] at hc2
  refine wp_skip ?_
  refine then_n (hK7 _ _ ?_); clear hK7 K7
  refine wp_seq_k ?_; intro K9 hK9
  replace hS := (hS.cutb 1 8 (sz - 8) rfl (by omega : l.length ≤ c)).pick [1, 0, 2] rfl rfl
  try replace hS := St.nm (M' := [.blk _ _ [_, _, _, _], .vw _ _, .vw _ _]) hS rfl
  refine rg_startk 1 hS mixed_ ?_
  clear hS; intro w hS
  refine rg_take 0 rfl rfl (by kernel_rfl) (by kernel_rfl) (by kernel_rfl) (want_0) (fun w hok => x_move (tmS rfl rfl)) ?_
  refine rg_take 3 rfl rfl (by kernel_rfl) (by kernel_rfl) (by kernel_rfl) (want_0) (fun w hok => x_move (tmS rfl rfl)) ?_
  refine rg_take 6 rfl rfl (by kernel_rfl) (by kernel_rfl) (by kernel_rfl) (want_0) (fun w hok => x_move (tmS rfl rfl)) ?_
  refine rg_take 10 rfl rfl (by kernel_rfl) (by kernel_rfl) (by kernel_rfl) (want_0) (fun w hok => x_move (tmS rfl rfl)) ?_
  refine rg_take 11 rfl rfl (by kernel_rfl) (by kernel_rfl) (by kernel_rfl) (want_0) (fun w hok => x_move (tmI rfl rfl)) ?_
  refine rg_take 12 rfl rfl (by kernel_rfl) (by kernel_rfl) (by kernel_rfl) (want_0) (fun w hok => x_sliceLH Try.underlying22 ts_5 (tmS rfl rfl) (ev_cN 8) (tmI rfl rfl) (by omega)) ?_
  refine rg_step2 1 9 rfl rfl (by kernel_rfl) (want_0) (want_0) (oks_drop hS 1 rfl) ?_ ?_
  · intro K hK
    refine ow_call Try.func17 rfl rfl (evs_cons (tmS rfl rfl) <| evs_cons (ev_cN 0) <| evs_cons (ev_cN 2) <| evs_nil) (get_c n _ c l _ _ _ (viewV hS.ok 2 rfl) hl hc hn4 hb (by omega) (by omega)) ?_
    rintro e w ⟨rfl, hk⟩
    refine ⟨_, rfl, ?_⟩
    replace hS := hS.kept hk
    clear hk
    refine hK _ _ ?_; clear hK K
    refine rg_take 2 rfl rfl (by kernel_rfl) (by kernel_rfl) (by kernel_rfl) (want_0) (fun w hok => x_convN Try.underlying24 Try.underlying27 (tmI rfl rfl) (fit_u16 (by omega))) ?_
    refine rg_step2 4 9 rfl rfl (by kernel_rfl) (want_0) (want_0) (oks_drop hS 1 rfl) ?_ ?_
    · intro K hK
      refine ow_call Try.func17 rfl rfl (evs_cons (tmS rfl rfl) <| evs_cons (ev_cN 2) <| evs_cons (ev_cN 2) <| evs_nil) (get_c n _ c l _ _ _ (viewV hS.ok 2 rfl) hl hc hn4 hb (by omega) (by omega)) ?_
      rintro e w ⟨rfl, hk⟩
      refine ⟨_, rfl, ?_⟩
      replace hS := hS.kept hk
      clear hk
      refine hK _ _ ?_; clear hK K
      refine rg_take 5 rfl rfl (by kernel_rfl) (by kernel_rfl) (by kernel_rfl) (want_0) (fun w hok => x_convN Try.underlying24 Try.underlying27 (tmI rfl rfl) (fit_u16 (by omega))) ?_
      refine rg_step2 7 9 rfl rfl (by kernel_rfl) (want_0) (want_0) (oks_drop hS 1 rfl) ?_ ?_
      · intro K hK
        refine ow_call Try.func17 rfl rfl (evs_cons (tmS rfl rfl) <| evs_cons (ev_cN 6) <| evs_cons (ev_cN 2) <| evs_nil) (get_c n _ c l _ _ _ (viewV hS.ok 2 rfl) hl hc hn4 hb (by omega) (by omega)) ?_
        rintro e w ⟨rfl, hk⟩
        refine ⟨_, rfl, ?_⟩
        replace hS := hS.kept hk
        clear hk
        refine hK _ _ ?_; clear hK K
        refine rg_take 8 rfl rfl (by kernel_rfl) (by kernel_rfl) (by kernel_rfl) (want_0) (fun w hok => x_convN Try.underlying24 Try.underlying27 (tmI rfl rfl) (fit_u16 (by omega))) ?_
        refine rg_step 9 rfl (by kernel_rfl) (want_0) (oks_drop hS 1 rfl) ?_; intro K hK
        refine ow_build0 hS Try.underlying22 tz_5 rfl rfl ?_
        clear hS; intro g8_9 w hg8_9 hS
        refine hK _ _ ?_; clear hK K
        refine rg_step 13 rfl (by kernel_rfl) (want_0) (oks_drop hS 2 rfl) ?_; intro K hK
        refine ow_appendV hS 0 rfl (viewV hS.ok 2 rfl) Try.underlying22 tz_5 rfl (tmS rfl rfl) (tmS rfl rfl) (by first | exact u8v_one _ | (intro u hu; simp at hu; first | (rcases hu with rfl | rfl <;> rfl) | (obtain ⟨_, _, rfl⟩ := hu; rfl))) ⟨by decide, by first | rfl | (simp; done) | (simp; omega)⟩ (by simp only [maxLen]; omega) (by omega) ?_; clear hS; intro g8_13 cg8_13 w hAg8_13 hCg8_13 hS
        refine hK _ _ ?_; clear hK K
        refine rg_take 14 rfl rfl (by kernel_rfl) (by kernel_rfl) (by kernel_rfl) (want_0) (fun w hok => x_build (bc_take (tmI rfl rfl) <| bc_take (tmI rfl rfl) <| bc_take (tmI rfl rfl) <| bc_take (tmS rfl rfl) <| bc_nil) (by kernel_rfl)) ?_
        refine rg_step 15 rfl (by kernel_rfl) (want_0) (oks_drop hS 2 rfl) ?_; intro K hK
        refine ow_storeA hS 1 rfl ts_42 (tmP rfl rfl) (tmA rfl rfl) rfl rfl rfl ?_
        clear hS; intro w hS
        try replace hS := St.nm (M' := [.row _ _ _ _ _, .blk _ _ [_, _, _, _], .vw _ _, .vw _ _]) hS rfl
        refine hK _ _ ?_; clear hK K
        refine rg_take 16 rfl rfl (by kernel_rfl) (by kernel_rfl) (by kernel_rfl) (want_0) (fun w hok => x_assign (ev_cN 0)) ?_
        refine rg_done (oks_drop hS 2 rfl) (by kernel_rfl) ?_
        simp only [List.nil_append, Nat.zero_add] at hS
        refine then_n (hK9 _ _ ?_); clear hK9 K9
        refine wp_ret ?_
        refine ret2 rfl (.cell rfl rfl (load_rowB (cs := [_, _, _, _]) hS.ok 1 rfl Try.underlying42 rfl ts_42 rfl)) (.tmp rfl (show _ = Value.int _ _ from rfl)) ?_
        exact ⟨g8_13, cg8_13, rfl, hS.newv 0 rfl, hS.kp⟩
      · intro K hK
        refine ow_build0 hS Try.underlying22 tz_5 rfl rfl ?_
        clear hS; intro g8_9 w hg8_9 hS
        refine hK _ _ ?_; clear hK K
        refine rg_step 7 rfl (by kernel_rfl) (want_0) (oks_drop hS 2 rfl) ?_; intro K hK
        refine ow_call Try.func17 rfl rfl (evs_cons (tmS rfl rfl) <| evs_cons (ev_cN 6) <| evs_cons (ev_cN 2) <| evs_nil) (get_c n _ c l _ _ _ (viewV hS.ok 3 rfl) hl hc hn4 hb (by omega) (by omega)) ?_
        rintro e w ⟨rfl, hk⟩
        refine ⟨_, rfl, ?_⟩
        replace hS := hS.kept hk
        clear hk
        refine hK _ _ ?_; clear hK K
        refine rg_take 8 rfl rfl (by kernel_rfl) (by kernel_rfl) (by kernel_rfl) (want_0) (fun w hok => x_convN Try.underlying24 Try.underlying27 (tmI rfl rfl) (fit_u16 (by omega))) ?_
        refine rg_step 13 rfl (by kernel_rfl) (want_0) (oks_drop hS 2 rfl) ?_; intro K hK
        refine ow_appendV hS 0 rfl (viewV hS.ok 2 rfl) Try.underlying22 tz_5 rfl (tmS rfl rfl) (tmS rfl rfl) (by first | exact u8v_one _ | (intro u hu; simp at hu; first | (rcases hu with rfl | rfl <;> rfl) | (obtain ⟨_, _, rfl⟩ := hu; rfl))) ⟨by decide, by first | rfl | (simp; done) | (simp; omega)⟩ (by simp only [maxLen]; omega) (by omega) ?_; clear hS; intro g8_13 cg8_13 w hAg8_13 hCg8_13 hS
        refine hK _ _ ?_; clear hK K
        refine rg_take 14 rfl rfl (by kernel_rfl) (by kernel_rfl) (by kernel_rfl) (want_0) (fun w hok => x_build (bc_take (tmI rfl rfl) <| bc_take (tmI rfl rfl) <| bc_take (tmI rfl rfl) <| bc_take (tmS rfl rfl) <| bc_nil) (by kernel_rfl)) ?_
        refine rg_step 15 rfl (by kernel_rfl) (want_0) (oks_drop hS 2 rfl) ?_; intro K hK
        refine ow_storeA hS 1 rfl ts_42 (tmP rfl rfl) (tmA rfl rfl) rfl rfl rfl ?_
        clear hS; intro w hS
        try replace hS := St.nm (M' := [.row _ _ _ _ _, .blk _ _ [_, _, _, _], .vw _ _, .vw _ _]) hS rfl
        refine hK _ _ ?_; clear hK K
        refine rg_take 16 rfl rfl (by kernel_rfl) (by kernel_rfl) (by kernel_rfl) (want_0) (fun w hok => x_assign (ev_cN 0)) ?_
        refine rg_done (oks_drop hS 2 rfl) (by kernel_rfl) ?_
        simp only [List.nil_append, Nat.zero_add] at hS
        refine then_n (hK9 _ _ ?_); clear hK9 K9
        refine wp_ret ?_
        refine ret2 rfl (.cell rfl rfl (load_rowB (cs := [_, _, _, _]) hS.ok 1 rfl Try.underlying42 rfl ts_42 rfl)) (.tmp rfl (show _ = Value.int _ _ from rfl)) ?_
        exact ⟨g8_13, cg8_13, rfl, hS.newv 0 rfl, hS.kp⟩
    · intro K hK
      refine ow_build0 hS Try.underlying22 tz_5 rfl rfl ?_
      clear hS; intro g8_9 w hg8_9 hS
      refine hK _ _ ?_; clear hK K
      refine rg_step 4 rfl (by kernel_rfl) (want_0) (oks_drop hS 2 rfl) ?_; intro K hK
      refine ow_call Try.func17 rfl rfl (evs_cons (tmS rfl rfl) <| evs_cons (ev_cN 2) <| evs_cons (ev_cN 2) <| evs_nil) (get_c n _ c l _ _ _ (viewV hS.ok 3 rfl) hl hc hn4 hb (by omega) (by omega)) ?_
      rintro e w ⟨rfl, hk⟩
      refine ⟨_, rfl, ?_⟩
      replace hS := hS.kept hk
      clear hk
      refine hK _ _ ?_; clear hK K
      refine rg_take 5 rfl rfl (by kernel_rfl) (by kernel_rfl) (by kernel_rfl) (want_0) (fun w hok => x_convN Try.underlying24 Try.underlying27 (tmI rfl rfl) (fit_u16 (by omega))) ?_
      refine rg_step 7 rfl (by kernel_rfl) (want_0) (oks_drop hS 2 rfl) ?_; intro K hK
      refine ow_call Try.func17 rfl rfl (evs_cons (tmS rfl rfl) <| evs_cons (ev_cN 6) <| evs_cons (ev_cN 2) <| evs_nil) (get_c n _ c l _ _ _ (viewV hS.ok 3 rfl) hl hc hn4 hb (by omega) (by omega)) ?_
      rintro e w ⟨rfl, hk⟩
      refine ⟨_, rfl, ?_⟩
      replace hS := hS.kept hk
      clear hk
      refine hK _ _ ?_; clear hK K
      refine rg_take 8 rfl rfl (by kernel_rfl) (by kernel_rfl) (by kernel_rfl) (want_0) (fun w hok => x_convN Try.underlying24 Try.underlying27 (tmI rfl rfl) (fit_u16 (by omega))) ?_
      refine rg_step 13 rfl (by kernel_rfl) (want_0) (oks_drop hS 2 rfl) ?_; intro K hK
      refine ow_appendV hS 0 rfl (viewV hS.ok 2 rfl) Try.underlying22 tz_5 rfl (tmS rfl rfl) (tmS rfl rfl) (by first | exact u8v_one _ | (intro u hu; simp at hu; first | (rcases hu with rfl | rfl <;> rfl) | (obtain ⟨_, _, rfl⟩ := hu; rfl))) ⟨by decide, by first | rfl | (simp; done) | (simp; omega)⟩ (by simp only [maxLen]; omega) (by omega) ?_; clear hS; intro g8_13 cg8_13 w hAg8_13 hCg8_13 hS
      refine hK _ _ ?_; clear hK K
      refine rg_take 14 rfl rfl (by kernel_rfl) (by kernel_rfl) (by kernel_rfl) (want_0) (fun w hok => x_build (bc_take (tmI rfl rfl) <| bc_take (tmI rfl rfl) <| bc_take (tmI rfl rfl) <| bc_take (tmS rfl rfl) <| bc_nil) (by kernel_rfl)) ?_
      refine rg_step 15 rfl (by kernel_rfl) (want_0) (oks_drop hS 2 rfl) ?_; intro K hK
      refine ow_storeA hS 1 rfl ts_42 (tmP rfl rfl) (tmA rfl rfl) rfl rfl rfl ?_
      clear hS; intro w hS
      try replace hS := St.nm (M' := [.row _ _ _ _ _, .blk _ _ [_, _, _, _], .vw _ _, .vw _ _]) hS rfl
      refine hK _ _ ?_; clear hK K
      refine rg_take 16 rfl rfl (by kernel_rfl) (by kernel_rfl) (by kernel_rfl) (want_0) (fun w hok => x_assign (ev_cN 0)) ?_
      refine rg_done (oks_drop hS 2 rfl) (by kernel_rfl) ?_
      simp only [List.nil_append, Nat.zero_add] at hS
      refine then_n (hK9 _ _ ?_); clear hK9 K9
      refine wp_ret ?_
      refine ret2 rfl (.cell rfl rfl (load_rowB (cs := [_, _, _, _]) hS.ok 1 rfl Try.underlying42 rfl ts_42 rfl)) (.tmp rfl (show _ = Value.int _ _ from rfl)) ?_
      exact ⟨g8_13, cg8_13, rfl, hS.newv 0 rfl, hS.kp⟩
  · intro K hK
    refine ow_build0 hS Try.underlying22 tz_5 rfl rfl ?_
    clear hS; intro g8_9 w hg8_9 hS
    refine hK _ _ ?_; clear hK K
    refine rg_step 1 rfl (by kernel_rfl) (want_0) (oks_drop hS 2 rfl) ?_; intro K hK
    refine ow_call Try.func17 rfl rfl (evs_cons (tmS rfl rfl) <| evs_cons (ev_cN 0) <| evs_cons (ev_cN 2) <| evs_nil) (get_c n _ c l _ _ _ (viewV hS.ok 3 rfl) hl hc hn4 hb (by omega) (by omega)) ?_
    rintro e w ⟨rfl, hk⟩
    refine ⟨_, rfl, ?_⟩
    replace hS := hS.kept hk
    clear hk
    refine hK _ _ ?_; clear hK K
    refine rg_take 2 rfl rfl (by kernel_rfl) (by kernel_rfl) (by kernel_rfl) (want_0) (fun w hok => x_convN Try.underlying24 Try.underlying27 (tmI rfl rfl) (fit_u16 (by omega))) ?_
    refine rg_step 4 rfl (by kernel_rfl) (want_0) (oks_drop hS 2 rfl) ?_; intro K hK
    refine ow_call Try.func17 rfl rfl (evs_cons (tmS rfl rfl) <| evs_cons (ev_cN 2) <| evs_cons (ev_cN 2) <| evs_nil) (get_c n _ c l _ _ _ (viewV hS.ok 3 rfl) hl hc hn4 hb (by omega) (by omega)) ?_
    rintro e w ⟨rfl, hk⟩
    refine ⟨_, rfl, ?_⟩
    replace hS := hS.kept hk
    clear hk
    refine hK _ _ ?_; clear hK K
    refine rg_take 5 rfl rfl (by kernel_rfl) (by kernel_rfl) (by kernel_rfl) (want_0) (fun w hok => x_convN Try.underlying24 Try.underlying27 (tmI rfl rfl) (fit_u16 (by omega))) ?_
    refine rg_step 7 rfl (by kernel_rfl) (want_0) (oks_drop hS 2 rfl) ?_; intro K hK
    refine ow_call Try.func17 rfl rfl (evs_cons (tmS rfl rfl) <| evs_cons (ev_cN 6) <| evs_cons (ev_cN 2) <| evs_nil) (get_c n _ c l _ _ _ (viewV hS.ok 3 rfl) hl hc hn4 hb (by omega) (by omega)) ?_
    rintro e w ⟨rfl, hk⟩
    refine ⟨_, rfl, ?_⟩
    replace hS := hS.kept hk
    clear hk
    refine hK _ _ ?_; clear hK K
    refine rg_take 8 rfl rfl (by kernel_rfl) (by kernel_rfl) (by kernel_rfl) (want_0) (fun w hok => x_convN Try.underlying24 Try.underlying27 (tmI rfl rfl) (fit_u16 (by omega))) ?_
    refine rg_step 13 rfl (by kernel_rfl) (want_0) (oks_drop hS 2 rfl) ?_; intro K hK
    refine ow_appendV hS 0 rfl (viewV hS.ok 2 rfl) Try.underlying22 tz_5 rfl (tmS rfl rfl) (tmS rfl rfl) (by first | exact u8v_one _ | (intro u hu; simp at hu; first | (rcases hu with rfl | rfl <;> rfl) | (obtain ⟨_, _, rfl⟩ := hu; rfl))) ⟨by decide, by first | rfl | (simp; done) | (simp; omega)⟩ (by simp only [maxLen]; omega) (by omega) ?_; clear hS; intro g8_13 cg8_13 w hAg8_13 hCg8_13 hS
    refine hK _ _ ?_; clear hK K
    refine rg_take 14 rfl rfl (by kernel_rfl) (by kernel_rfl) (by kernel_rfl) (want_0) (fun w hok => x_build (bc_take (tmI rfl rfl) <| bc_take (tmI rfl rfl) <| bc_take (tmI rfl rfl) <| bc_take (tmS rfl rfl) <| bc_nil) (by kernel_rfl)) ?_
    refine rg_step 15 rfl (by kernel_rfl) (want_0) (oks_drop hS 2 rfl) ?_; intro K hK
    refine ow_storeA hS 1 rfl ts_42 (tmP rfl rfl) (tmA rfl rfl) rfl rfl rfl ?_
    clear hS; intro w hS
    try replace hS := St.nm (M' := [.row _ _ _ _ _, .blk _ _ [_, _, _, _], .vw _ _, .vw _ _]) hS rfl
    refine hK _ _ ?_; clear hK K
    refine rg_take 16 rfl rfl (by kernel_rfl) (by kernel_rfl) (by kernel_rfl) (want_0) (fun w hok => x_assign (ev_cN 0)) ?_
    refine rg_done (oks_drop hS 2 rfl) (by kernel_rfl) ?_
    simp only [List.nil_append, Nat.zero_add] at hS
    refine then_n (hK9 _ _ ?_); clear hK9 K9
    refine wp_ret ?_
    refine ret2 rfl (.cell rfl rfl (load_rowB (cs := [_, _, _, _]) hS.ok 1 rfl Try.underlying42 rfl ts_42 rfl)) (.tmp rfl (show _ = Value.int _ _ from rfl)) ?_
    exact ⟨g8_13, cg8_13, rfl, hS.newv 0 rfl, hS.kp⟩

end Go.Proofs.Ytcobjneobdihkaa
