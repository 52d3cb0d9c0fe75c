/- tcp: Same, Of, To, Stamps, the law's awake, by contract. Conditions: none but bounds. -/
import Derived.Test.YtcobjneobdihkaaTcpR
namespace Go.Proofs.Ytcobjneobdihkaa
open Go.RowKit

set_option maxRecDepth 100000 in
set_option maxHeartbeats 4000000 in
theorem stampsAt_c (p q : Nat) (w0 : World) (h : p ≤ 1000000) :
    Calls Try.prog 46 #[.int .i64 (p : Int), .int .u8 (q : Int)] w0 fun e w' => e = .returned (.tuple #[.int .i64 ((if q = 10 then p + 2 else 0 : Nat) : Int), .bool (decide (q = 10))]) ∧ Kp [] w0 w' := by
  have hS := St.sv w0
  refine ent (n := 10) Try.func46 rfl rfl ?_
  refine wp_seq_k ?_; intro K1 hK1
  refine wlit ?_
  refine wl_v (x_assign (ev_cN 0)) ?_
  refine wl_v (x_assign ev_c) ?_
  refine wl_nil ?_
  refine then_n (hK1 _ _ ?_); clear hK1 K1
  refine wp_seq_k ?_; intro K2 hK2
  refine wp_seq_k ?_; intro K3 hK3
  refine wlit ?_
  refine wl_v (x_move (tmI rfl rfl)) ?_
  refine wl_v (x_neq (tmI rfl rfl) (ev_cN 10)) ?_
  refine wl_nil ?_
  refine then_n (hK3 _ _ ?_); clear hK3 K3
  refine cnd (tm rfl) (fun hc0 => ?_) (fun hc0 => ?_)
  · skip
    all_goals
     try simp only [nrm] at hc0
     refine wp_seq_k ?_; intro K4 hK4
     refine wlit ?_
     refine wl_v (x_assign (ev_cN 0)) ?_
     refine wl_v (x_assign ev_c) ?_
     refine wl_nil ?_
     refine then_n (hK4 _ _ ?_); clear hK4 K4
     refine wp_ret ?_
     refine then_r ?_
     refine ret2 rfl (.tmp rfl (show _ = Value.int _ _ from rfl)) (.tmp rfl (show _ = Value.bool _ from rfl)) ?_
     simp [hc0]
     exact hS.kp
  all_goals
   try simp only [nrm] at hc0
   refine wp_skip ?_
   refine then_n (hK2 _ _ ?_); clear hK2 K2
   refine wp_seq_k ?_; intro K5 hK5
   refine wlit ?_
   refine wl_v (x_move (tmI rfl rfl)) ?_
   refine wl_v (x_addN (tmI rfl rfl) (ev_cN 2) (fit_i64 (by omega))) ?_
   refine wl_v (x_assign (tmI rfl rfl)) ?_
   refine wl_v (x_assign ev_c) ?_
   refine wl_nil ?_
   refine then_n (hK5 _ _ ?_); clear hK5 K5
   refine wp_ret ?_
   refine ret2 rfl (.tmp rfl (show _ = Value.int _ _ from rfl)) (.tmp rfl (show _ = Value.bool _ from rfl)) ?_
   simp [hc0]
   exact hS.kp

/-- Where the time stamps stand in options: by the chapter, from place p on (with so much fuel). -/
def stampsF (l : List Nat) : Nat → Nat → Option Nat
  | 0, _ => none
  | f + 1, p =>
    if p < l.length ∧ nth l p ≠ 0 then
      if nth l p = 1 then stampsF l f (p + 1)
      else if l.length - p < 2 ∨ nth l (p + 1) < 2 ∨ l.length - p < nth l (p + 1) then none
      else if nth l p = 8 then (if nth l (p + 1) = 10 then some (p + 2) else none)
      else stampsF l f (p + nth l (p + 1))
    else none
theorem stampsF_more (l : List Nat) : ∀ f f' p, l.length - p < f → l.length - p < f' → stampsF l f p = stampsF l f' p := by
  intro f
  induction f with
  | zero => intro f' p h; omega
  | succ f ih =>
    intro f' p h h'
    cases f' with
    | zero => omega
    | succ f' =>
      simp only [stampsF]
      split
      · rename_i hp
        split
        · exact ih _ _ (by omega) (by omega)
        · split
          · rfl
          · rename_i h1
            split
            · rfl
            · exact ih _ _ (by omega) (by omega)
      · rfl
def stampsL (l : List Nat) (p : Nat) : Option Nat := stampsF l (l.length - p + 1) p
theorem stampsL_eq (l : List Nat) (p : Nat) : stampsL l p = if p < l.length ∧ nth l p ≠ 0 then
      if nth l p = 1 then stampsL l (p + 1)
      else if l.length - p < 2 ∨ nth l (p + 1) < 2 ∨ l.length - p < nth l (p + 1) then none
      else if nth l p = 8 then (if nth l (p + 1) = 10 then some (p + 2) else none)
      else stampsL l (p + nth l (p + 1))
    else none := by
  unfold stampsL
  conv => lhs; rw [stampsF]
  split
  · rename_i hp
    split
    · exact stampsF_more _ _ _ _ (by omega) (by omega)
    · split
      · rfl
      · rename_i h1
        split
        · rfl
        · exact stampsF_more _ _ _ _ (by omega) (by omega)
  · rfl

set_option maxRecDepth 100000 in
set_option maxHeartbeats 4000000 in
theorem stamps_c (n : Nat) (A : Option Addr) (c : Nat) (l : List Nat) (w0 : World) (hv : View w0 w0.heap.size A (l.map u8v)) (hl : l.length = n) (hb : Bytes l) (hn4 : n ≤ 900000) :
    Calls Try.prog 24 #[.slice A n c] w0 fun e w' => e = .returned (.tuple #[.int .i64 (((stampsL l 0).getD 0 : Nat) : Int), .bool (stampsL l 0).isSome]) ∧ Kp [] w0 w' := by
  have hS := (St.sv w0).vcons rfl hv
  refine ent (n := 70) Try.func24 rfl rfl ?_
  refine wp_seq_k ?_; intro K1 hK1
  refine wlit ?_
  refine wl_v (x_assign (ev_cN 0)) ?_
  refine wl_v (x_assign ev_c) ?_
  refine wl_nil ?_
  refine then_n (hK1 _ _ ?_); clear hK1 K1
  refine wp_seq_k ?_; intro K2 hK2
  refine wp_seq_k ?_; intro K3 hK3
  refine wlit ?_
  refine wl_v (x_assign (ev_cN 0)) ?_
  refine wl_nil ?_
  refine then_n (hK3 _ _ ?_); clear hK3 K3
  refine wp_block ?_
  refine lp [2, 3, 4, 5, 6, 7, 8, 9, 10, 11, 12, 13, 14, 15, 16, 17, 18, 19, 20, 21, 22, 23, 24, 25, 26, 27, 28, 29, 30, 31, 32, 33, 34, 35, 36, 37, 38, 39, 40, 41, 42, 43, 44, 45, 46, 47, 48, 49, 50, 51, 52, 53, 54, 55, 56, 57, 58, 59, 60, 61, 62, 63, 64, 65, 66, 67, 68, 69] (fun mz g w => ∃ (p : Nat), mz = n - p ∧ g 4 = .int .i64 (p : Int) ∧ St [] w0 [.vw A (l.map u8v)] w ∧ (p ≤ n) ∧ (stampsL l 0 = stampsL l p)) ?_ ?_
  · exact ⟨_, 0, rfl, (by first | rfl | go_num | exact congrArg (Value.int _) (by first | omega | (simp; done) | (simp; omega))), hS, (by omega), (by first | rfl | exact hx1 | exact hx2)⟩
  · clear hS; intro mz g w hI
    obtain ⟨p, rfl, hs4, hS, hp, hst⟩ := hI
    refine fr_know (d := 4) hs4 ?_; clear hs4
    refine wp_seq_k ?_; intro K4 hK4
    refine wp_seq_k ?_; intro K5 hK5
    refine wlit ?_
    refine wl_v (x_move (tmI rfl rfl)) ?_
    refine wl_v (x_move (tmS rfl rfl)) ?_
    refine wl_v (x_len Try.underlying22 (tmS rfl rfl)) ?_
    refine wl_v (x_lss (tmI rfl rfl) (tmI rfl rfl)) ?_
    refine wl_v (x_move (tmB rfl rfl)) ?_
    refine gs_wl (tm (t := 10) rfl) (fun hg2_4 => ?_) (fun hg2_4 => ?_)
    · have hg2_4' := hg2_4; (try simp only [nrm] at hg2_4')
      all_goals
       obtain ⟨b4, o4, rfl⟩ := view_some hv (by rw [List.length_map]; omega)
       have e1 : l.getD p 0 = nth l p := rfl
       have e2 : l.getD (p + 1) 0 = nth l (p + 1) := rfl
       have q1 := nth_lt hb p
       have q2 := nth_lt hb (p + 1)
       have hu := stampsL_eq l p
       refine wl_gv (want_y rfl rfl rfl rfl (by rw [hg2_4]; rfl)) (x_move (tmS rfl rfl)) ?_
       refine wl_gv (want_y rfl rfl rfl rfl (by rw [hg2_4]; rfl)) (x_move (tmI rfl rfl)) ?_
       refine wl_gv (want_y rfl rfl rfl rfl (by rw [hg2_4]; rfl)) (x_ixs1 Try.underlying22 ts_5 (tmS rfl rfl) (tmI rfl rfl) (by omega)) ?_
       refine wl_gv (want_y rfl rfl rfl rfl (by rw [hg2_4]; rfl)) (x_load Try.underlying5 rfl (tmP rfl rfl) (cellV hS.ok 0 rfl (getm (by omega)))) ?_
       refine wl_gv (want_y rfl rfl rfl rfl (by rw [hg2_4]; rfl)) (x_neq (tmI rfl rfl) (ev_cN 0)) ?_
       refine wl_v (x_pickT (tmB rfl rfl) hg2_4 (tmB rfl rfl)) ?_
       refine wl_nil ?_
       refine then_n (hK5 _ _ ?_); clear hK5 K5
       refine cnd (tm rfl) (fun hc0 => ?_) (fun hc0 => ?_)
       · skip
         all_goals
          try simp only [nrm] at hc0
          refine wp_skip ?_
          refine then_n (hK4 _ _ ?_); clear hK4 K4
          refine wp_block ?_
          refine wp_seq_k ?_; intro K6 hK6
          refine wp_seq_k ?_; intro K7 hK7
          refine wlit ?_
          refine wl_v (x_move (tmS rfl rfl)) ?_
          refine wl_v (x_move (tmI rfl rfl)) ?_
          refine wl_v (x_ixs1 Try.underlying22 ts_5 (tmS rfl rfl) (tmI rfl rfl) (by omega)) ?_
          refine wl_v (x_load Try.underlying5 rfl (tmP rfl rfl) (cellV hS.ok 0 rfl (getm (by omega)))) ?_
          refine wl_v (x_eql (tmI rfl rfl) (ev_cN 1)) ?_
          refine wl_nil ?_
          refine then_n (hK7 _ _ ?_); clear hK7 K7
          refine cnd (tm rfl) (fun hc1 => ?_) (fun hc1 => ?_)
          · skip
            all_goals
             try simp only [nrm] at hc1
             have hx1 : stampsL l 0 = stampsL l (p + 1) := by rw [hst, hu, if_pos ⟨by omega, by omega⟩, if_pos (by omega)]
             refine wp_seq_k ?_; intro K8 hK8
             refine wlit ?_
             refine wl_v (x_move (tmI rfl rfl)) ?_
             refine wl_v (x_addN (tmI rfl rfl) (ev_cN 1) (fit_i64 (by omega))) ?_
             refine wl_v (x_assign (tmI rfl rfl)) ?_
             refine wl_nil ?_
             refine then_n (hK8 _ _ ?_); clear hK8 K8
             refine wp_exit ?_
             refine then_x ?_; clear hK6 K6
             refine inb_x ?_
             exact then_n ⟨_, _, rfl, (by show _ < _; omega), (by repeat (first | exact agree_self | exact agree_refl | refine agree_upd rfl ?_ | refine agree_mix rfl ?_)), p + 1, rfl, (by first | rfl | go_num | exact congrArg (Value.int _) (by first | omega | (simp; done) | (simp; omega))), hS, (by omega), (by first | rfl | exact hx1 | exact hx2)⟩
          all_goals
           try simp only [nrm] at hc1
           refine wp_skip ?_
           refine then_n (hK6 _ _ ?_); clear hK6 K6
           refine wp_seq_k ?_; intro K9 hK9
           refine wlit ?_
           refine wl_v (x_move (tmS rfl rfl)) ?_
           refine wl_v (x_len Try.underlying22 (tmS rfl rfl)) ?_
           refine wl_v (x_move (tmI rfl rfl)) ?_
           refine wl_v (x_subN (tmI rfl rfl) (tmI rfl rfl) (fit_i64 (by omega)) (by omega)) ?_
           refine wl_v (x_assign (tmI rfl rfl)) ?_
           refine wl_nil ?_
           refine then_n (hK9 _ _ ?_); clear hK9 K9
           refine wp_seq_k ?_; intro K10 hK10
           refine wp_seq_k ?_; intro K11 hK11
           refine wlit ?_
           refine wl_v (x_move (tmI rfl rfl)) ?_
           refine wl_v (x_lss (tmI rfl rfl) (ev_cN 2)) ?_
           refine wl_v (x_move (tmB rfl rfl)) ?_
           refine gs_wl (tm (t := 30) rfl) (fun hg6_2 => ?_) (fun hg6_2 => ?_)
           · have hg6_2' := hg6_2; (try simp only [nrm] at hg6_2')
             all_goals
              refine wl_s rfl (want_n rfl rfl rfl rfl (by rw [hg6_2]; rfl)) ?_
              refine wl_s rfl (want_n rfl rfl rfl rfl (by rw [hg6_2]; rfl)) ?_
              refine wl_s rfl (want_n rfl rfl rfl rfl (by rw [hg6_2]; rfl)) ?_
              refine wl_s rfl (want_n rfl rfl rfl rfl (by rw [hg6_2]; rfl)) ?_
              refine wl_s rfl (want_n rfl rfl rfl rfl (by rw [hg6_2]; rfl)) ?_
              refine wl_s rfl (want_n rfl rfl rfl rfl (by rw [hg6_2]; rfl)) ?_
              refine wl_v (x_pickT (tmB rfl rfl) hg6_2 ev_c) ?_
              refine wl_v (x_move (tmB rfl rfl)) ?_
              refine wl_s rfl (want_n rfl rfl rfl rfl rfl) ?_
              refine wl_s rfl (want_n rfl rfl rfl rfl rfl) ?_
              refine wl_s rfl (want_n rfl rfl rfl rfl rfl) ?_
              refine wl_s rfl (want_n rfl rfl rfl rfl rfl) ?_
              refine wl_s rfl (want_n rfl rfl rfl rfl rfl) ?_
              refine wl_s rfl (want_n rfl rfl rfl rfl rfl) ?_
              refine wl_s rfl (want_n rfl rfl rfl rfl rfl) ?_
              refine wl_s rfl (want_n rfl rfl rfl rfl rfl) ?_
              refine wl_v (x_pickT (tmB rfl rfl) rfl ev_c) ?_
              refine wl_nil ?_
              refine then_n (hK11 _ _ ?_); clear hK11 K11
              refine cnd_t (tmB rfl rfl) rfl ?_
              refine wp_seq_k ?_; intro K12 hK12
              refine wlit ?_
              refine wl_v (x_assign (ev_cN 0)) ?_
              refine wl_v (x_assign ev_c) ?_
              refine wl_nil ?_
              refine then_n (hK12 _ _ ?_); clear hK12 K12
              refine wp_ret ?_
              refine then_r ?_
              refine inb_r ?_
              refine then_r ?_
              refine inb_r ?_
              refine then_r ?_
              refine ret2 rfl (.tmp rfl (show _ = Value.int _ _ from rfl)) (.tmp rfl (show _ = Value.bool _ from rfl)) ?_
              have hu := stampsL_eq l p
              have e1 : l.getD p 0 = nth l p := rfl
              have e2 : l.getD (p + 1) 0 = nth l (p + 1) := rfl
              refine ⟨?_, hS.kp⟩
              rw [hst]
              first
                | (rw [if_neg (by omega)] at hu
                   rw [hu]; rfl)
                | (rw [if_pos ⟨by omega, by omega⟩, if_neg (by omega), if_pos (by omega)] at hu
                   rw [hu]; rfl)
                | (rw [if_pos ⟨by omega, by omega⟩, if_neg (by omega), if_neg (by omega), if_pos (by omega)] at hu
                   rw [hu, e2]
                   split <;> simp [*])
           have hg6_2' := hg6_2; (try simp only [nrm] at hg6_2')
           all_goals
            refine wl_gv (want_y rfl rfl rfl rfl (by rw [hg6_2]; rfl)) (x_move (tmS rfl rfl)) ?_
            refine wl_gv (want_y rfl rfl rfl rfl (by rw [hg6_2]; rfl)) (x_move (tmI rfl rfl)) ?_
            refine wl_gv (want_y rfl rfl rfl rfl (by rw [hg6_2]; rfl)) (x_addN (tmI rfl rfl) (ev_cN 1) (fit_i64 (by omega))) ?_
            refine wl_gv (want_y rfl rfl rfl rfl (by rw [hg6_2]; rfl)) (x_ixs1 Try.underlying22 ts_5 (tmS rfl rfl) (tmI rfl rfl) (by omega)) ?_
            refine wl_gv (want_y rfl rfl rfl rfl (by rw [hg6_2]; rfl)) (x_load Try.underlying5 rfl (tmP rfl rfl) (cellV hS.ok 0 rfl (getm (by omega)))) ?_
            refine wl_gv (want_y rfl rfl rfl rfl (by rw [hg6_2]; rfl)) (x_lss (tmI rfl rfl) (ev_cN 2)) ?_
            refine wl_v (x_pickF (tmB rfl rfl) hg6_2 (tmB rfl rfl)) ?_
            refine wl_v (x_move (tmB rfl rfl)) ?_
            refine gs_wl (tm (t := 38) rfl) (fun hg6_10 => ?_) (fun hg6_10 => ?_)
            · have hg6_10' := hg6_10; (try simp only [nrm] at hg6_10')
              all_goals
               refine wl_s rfl (want_n rfl rfl rfl rfl (by rw [hg6_10]; rfl)) ?_
               refine wl_s rfl (want_n rfl rfl rfl rfl (by rw [hg6_10]; rfl)) ?_
               refine wl_s rfl (want_n rfl rfl rfl rfl (by rw [hg6_10]; rfl)) ?_
               refine wl_s rfl (want_n rfl rfl rfl rfl (by rw [hg6_10]; rfl)) ?_
               refine wl_s rfl (want_n rfl rfl rfl rfl (by rw [hg6_10]; rfl)) ?_
               refine wl_s rfl (want_n rfl rfl rfl rfl (by rw [hg6_10]; rfl)) ?_
               refine wl_s rfl (want_n rfl rfl rfl rfl (by rw [hg6_10]; rfl)) ?_
               refine wl_s rfl (want_n rfl rfl rfl rfl (by rw [hg6_10]; rfl)) ?_
               refine wl_v (x_pickT (tmB rfl rfl) hg6_10 ev_c) ?_
               refine wl_nil ?_
               refine then_n (hK11 _ _ ?_); clear hK11 K11
               refine cnd_t (tmB rfl rfl) rfl ?_
               refine wp_seq_k ?_; intro K13 hK13
               refine wlit ?_
               refine wl_v (x_assign (ev_cN 0)) ?_
               refine wl_v (x_assign ev_c) ?_
               refine wl_nil ?_
               refine then_n (hK13 _ _ ?_); clear hK13 K13
               refine wp_ret ?_
               refine then_r ?_
               refine inb_r ?_
               refine then_r ?_
               refine inb_r ?_
               refine then_r ?_
               refine ret2 rfl (.tmp rfl (show _ = Value.int _ _ from rfl)) (.tmp rfl (show _ = Value.bool _ from rfl)) ?_
               have hu := stampsL_eq l p
               have e1 : l.getD p 0 = nth l p := rfl
               have e2 : l.getD (p + 1) 0 = nth l (p + 1) := rfl
               refine ⟨?_, hS.kp⟩
               rw [hst]
               first
                 | (rw [if_neg (by omega)] at hu
                    rw [hu]; rfl)
                 | (rw [if_pos ⟨by omega, by omega⟩, if_neg (by omega), if_pos (by omega)] at hu
                    rw [hu]; rfl)
                 | (rw [if_pos ⟨by omega, by omega⟩, if_neg (by omega), if_neg (by omega), if_pos (by omega)] at hu
                    rw [hu, e2]
                    split <;> simp [*])
            have hg6_10' := hg6_10; (try simp only [nrm] at hg6_10')
            all_goals
             refine wl_gv (want_y rfl rfl rfl rfl (by rw [hg6_10]; rfl)) (x_move (tmS rfl rfl)) ?_
             refine wl_gv (want_y rfl rfl rfl rfl (by rw [hg6_10]; rfl)) (x_move (tmI rfl rfl)) ?_
             refine wl_gv (want_y rfl rfl rfl rfl (by rw [hg6_10]; rfl)) (x_addN (tmI rfl rfl) (ev_cN 1) (fit_i64 (by omega))) ?_
             refine wl_gv (want_y rfl rfl rfl rfl (by rw [hg6_10]; rfl)) (x_ixs1 Try.underlying22 ts_5 (tmS rfl rfl) (tmI rfl rfl) (by omega)) ?_
             refine wl_gv (want_y rfl rfl rfl rfl (by rw [hg6_10]; rfl)) (x_load Try.underlying5 rfl (tmP rfl rfl) (cellV hS.ok 0 rfl (getm (by omega)))) ?_
             refine wl_gv (want_y rfl rfl rfl rfl (by rw [hg6_10]; rfl)) (x_convN Try.underlying5 Try.underlying3 (tmI rfl rfl) (fit_i64 (by omega))) ?_
             refine wl_gv (want_y rfl rfl rfl rfl (by rw [hg6_10]; rfl)) (x_move (tmI rfl rfl)) ?_
             refine wl_gv (want_y rfl rfl rfl rfl (by rw [hg6_10]; rfl)) (x_gtr (tmI rfl rfl) (tmI rfl rfl)) ?_
             refine wl_v (x_pickF (tmB rfl rfl) hg6_10 (tmB rfl rfl)) ?_
             refine wl_nil ?_
             refine then_n (hK11 _ _ ?_); clear hK11 K11
             refine cnd (tm rfl) (fun hc2 => ?_) (fun hc2 => ?_)
             · skip
               all_goals
                try simp only [nrm] at hc2
                refine wp_seq_k ?_; intro K14 hK14
                refine wlit ?_
                refine wl_v (x_assign (ev_cN 0)) ?_
                refine wl_v (x_assign ev_c) ?_
                refine wl_nil ?_
                refine then_n (hK14 _ _ ?_); clear hK14 K14
                refine wp_ret ?_
                refine then_r ?_
                refine inb_r ?_
                refine then_r ?_
                refine inb_r ?_
                refine then_r ?_
                refine ret2 rfl (.tmp rfl (show _ = Value.int _ _ from rfl)) (.tmp rfl (show _ = Value.bool _ from rfl)) ?_
                have hu := stampsL_eq l p
                have e1 : l.getD p 0 = nth l p := rfl
                have e2 : l.getD (p + 1) 0 = nth l (p + 1) := rfl
                refine ⟨?_, hS.kp⟩
                rw [hst]
                first
                  | (rw [if_neg (by omega)] at hu
                     rw [hu]; rfl)
                  | (rw [if_pos ⟨by omega, by omega⟩, if_neg (by omega), if_pos (by omega)] at hu
                     rw [hu]; rfl)
                  | (rw [if_pos ⟨by omega, by omega⟩, if_neg (by omega), if_neg (by omega), if_pos (by omega)] at hu
                     rw [hu, e2]
                     split <;> simp [*])
             all_goals
              try simp only [nrm] at hc2
              refine wp_skip ?_
              refine then_n (hK10 _ _ ?_); clear hK10 K10
              refine wp_seq_k ?_; intro K15 hK15
              refine wp_seq_k ?_; intro K16 hK16
              refine wlit ?_
              refine wl_v (x_move (tmS rfl rfl)) ?_
              refine wl_v (x_move (tmI rfl rfl)) ?_
              refine wl_v (x_ixs1 Try.underlying22 ts_5 (tmS rfl rfl) (tmI rfl rfl) (by omega)) ?_
              refine wl_v (x_load Try.underlying5 rfl (tmP rfl rfl) (cellV hS.ok 0 rfl (getm (by omega)))) ?_
              refine wl_v (x_eql (tmI rfl rfl) (ev_cN 8)) ?_
              refine wl_nil ?_
              refine then_n (hK16 _ _ ?_); clear hK16 K16
              refine cnd (tm rfl) (fun hc3 => ?_) (fun hc3 => ?_)
              · skip
                all_goals
                 try simp only [nrm] at hc3
                 refine wp_seq_k ?_; intro K17 hK17
                 refine wlit ?_
                 refine wl_v (x_move (tmI rfl rfl)) ?_
                 refine wl_v (x_move (tmS rfl rfl)) ?_
                 refine wl_v (x_move (tmI rfl rfl)) ?_
                 refine wl_v (x_addN (tmI rfl rfl) (ev_cN 1) (fit_i64 (by omega))) ?_
                 refine wl_v (x_ixs1 Try.underlying22 ts_5 (tmS rfl rfl) (tmI rfl rfl) (by omega)) ?_
                 refine wl_v (x_load Try.underlying5 rfl (tmP rfl rfl) (cellV hS.ok 0 rfl (getm (by omega)))) ?_
                 refine wl_e rfl ?_; intro K hK
                 refine ow_call Try.func46 rfl rfl (evs_cons (tmI rfl rfl) <| evs_cons (tmI rfl rfl) <| evs_nil) (stampsAt_c p _ _ (by omega)) ?_
                 rintro e w ⟨rfl, hk⟩
                 refine ⟨_, rfl, ?_⟩
                 replace hS := hS.kept hk
                 clear hk
                 refine hK _ _ ?_; clear hK K
                 refine wl_v (x_ext (tmT rfl rfl) rfl) ?_
                 refine wl_v (x_ext (tmT rfl rfl) rfl) ?_
                 refine wl_v (x_assign (tmI rfl rfl)) ?_
                 refine wl_v (x_assign (tmB rfl rfl)) ?_
                 refine wl_nil ?_
                 refine then_n (hK17 _ _ ?_); clear hK17 K17
                 refine wp_ret ?_
                 refine then_r ?_
                 refine inb_r ?_
                 refine then_r ?_
                 refine inb_r ?_
                 refine then_r ?_
                 refine ret2 rfl (.tmp rfl (show _ = Value.int _ _ from rfl)) (.tmp rfl (show _ = Value.bool _ from rfl)) ?_
                 have hu := stampsL_eq l p
                 have e1 : l.getD p 0 = nth l p := rfl
                 have e2 : l.getD (p + 1) 0 = nth l (p + 1) := rfl
                 refine ⟨?_, hS.kp⟩
                 rw [hst]
                 first
                   | (rw [if_neg (by omega)] at hu
                      rw [hu]; rfl)
                   | (rw [if_pos ⟨by omega, by omega⟩, if_neg (by omega), if_pos (by omega)] at hu
                      rw [hu]; rfl)
                   | (rw [if_pos ⟨by omega, by omega⟩, if_neg (by omega), if_neg (by omega), if_pos (by omega)] at hu
                      rw [hu, e2]
                      split <;> simp [*])
              all_goals
               try simp only [nrm] at hc3
               have hx2 : stampsL l 0 = stampsL l (p + l.getD (p + 1) 0) := by rw [hst, hu, if_pos ⟨by omega, by omega⟩, if_neg (by omega), if_neg (by omega), if_neg (by omega)]; rfl
               refine wp_skip ?_
               refine then_n (hK15 _ _ ?_); clear hK15 K15
               refine wlit ?_
               refine wl_v (x_move (tmI rfl rfl)) ?_
               refine wl_v (x_move (tmS rfl rfl)) ?_
               refine wl_v (x_move (tmI rfl rfl)) ?_
               refine wl_v (x_addN (tmI rfl rfl) (ev_cN 1) (fit_i64 (by omega))) ?_
               refine wl_v (x_ixs1 Try.underlying22 ts_5 (tmS rfl rfl) (tmI rfl rfl) (by omega)) ?_
               refine wl_v (x_load Try.underlying5 rfl (tmP rfl rfl) (cellV hS.ok 0 rfl (getm (by omega)))) ?_
               refine wl_v (x_convN Try.underlying5 Try.underlying3 (tmI rfl rfl) (fit_i64 (by omega))) ?_
               refine wl_v (x_addN (tmI rfl rfl) (tmI rfl rfl) (fit_i64 (by omega))) ?_
               refine wl_v (x_assign (tmI rfl rfl)) ?_
               refine wl_nil ?_
               refine inb_n ?_
               exact then_n ⟨_, _, rfl, (by show _ < _; omega), (by repeat (first | exact agree_self | exact agree_refl | refine agree_upd rfl ?_ | refine agree_mix rfl ?_)), p + l.getD (p + 1) 0, rfl, (by first | rfl | go_num | exact congrArg (Value.int _) (by first | omega | (simp; done) | (simp; omega))), hS, (by omega), (by first | rfl | exact hx1 | exact hx2)⟩
       all_goals
        try simp only [nrm] at hc0
        refine wp_exit ?_
        refine then_x ?_; clear hK4 K4
        refine then_x ?_
        refine inb_x ?_
        refine then_n (hK2 _ _ ?_); clear hK2 K2
        refine wp_seq_k ?_; intro K18 hK18
        refine wlit ?_
        refine wl_v (x_assign (ev_cN 0)) ?_
        refine wl_v (x_assign ev_c) ?_
        refine wl_nil ?_
        refine then_n (hK18 _ _ ?_); clear hK18 K18
        refine wp_ret ?_
        refine ret2 rfl (.tmp rfl (show _ = Value.int _ _ from rfl)) (.tmp rfl (show _ = Value.bool _ from rfl)) ?_
        have hu := stampsL_eq l p
        have e1 : l.getD p 0 = nth l p := rfl
        have e2 : l.getD (p + 1) 0 = nth l (p + 1) := rfl
        refine ⟨?_, hS.kp⟩
        rw [hst]
        first
          | (rw [if_neg (by omega)] at hu
             rw [hu]; rfl)
          | (rw [if_pos ⟨by omega, by omega⟩, if_neg (by omega), if_pos (by omega)] at hu
             rw [hu]; rfl)
          | (rw [if_pos ⟨by omega, by omega⟩, if_neg (by omega), if_neg (by omega), if_pos (by omega)] at hu
             rw [hu, e2]
             split <;> simp [*])
    have hg2_4' := hg2_4; (try simp only [nrm] at hg2_4')
    all_goals
     refine wl_s rfl (want_n rfl rfl rfl rfl (by rw [hg2_4]; rfl)) ?_
     refine wl_s rfl (want_n rfl rfl rfl rfl (by rw [hg2_4]; rfl)) ?_
     refine wl_s rfl (want_n rfl rfl rfl rfl (by rw [hg2_4]; rfl)) ?_
     refine wl_s rfl (want_n rfl rfl rfl rfl (by rw [hg2_4]; rfl)) ?_
     refine wl_s rfl (want_n rfl rfl rfl rfl (by rw [hg2_4]; rfl)) ?_
     refine wl_v (x_pickF (tmB rfl rfl) hg2_4 ev_c) ?_
     refine wl_nil ?_
     refine then_n (hK5 _ _ ?_); clear hK5 K5
     refine cnd_f (tmB rfl rfl) rfl ?_
     refine wp_exit ?_
     refine then_x ?_; clear hK4 K4
     refine then_x ?_
     refine inb_x ?_
     refine then_n (hK2 _ _ ?_); clear hK2 K2
     refine wp_seq_k ?_; intro K19 hK19
     refine wlit ?_
     refine wl_v (x_assign (ev_cN 0)) ?_
     refine wl_v (x_assign ev_c) ?_
     refine wl_nil ?_
     refine then_n (hK19 _ _ ?_); clear hK19 K19
     refine wp_ret ?_
     refine ret2 rfl (.tmp rfl (show _ = Value.int _ _ from rfl)) (.tmp rfl (show _ = Value.bool _ from rfl)) ?_
     have hu := stampsL_eq l p
     have e1 : l.getD p 0 = nth l p := rfl
     have e2 : l.getD (p + 1) 0 = nth l (p + 1) := rfl
     refine ⟨?_, hS.kp⟩
     rw [hst]
     first
       | (rw [if_neg (by omega)] at hu
          rw [hu]; rfl)
       | (rw [if_pos ⟨by omega, by omega⟩, if_neg (by omega), if_pos (by omega)] at hu
          rw [hu]; rfl)
       | (rw [if_pos ⟨by omega, by omega⟩, if_neg (by omega), if_neg (by omega), if_pos (by omega)] at hu
          rw [hu, e2]
          split <;> simp [*])

end Go.Proofs.Ytcobjneobdihkaa
