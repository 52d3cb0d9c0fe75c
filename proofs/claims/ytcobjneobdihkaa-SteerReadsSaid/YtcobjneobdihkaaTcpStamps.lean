/- Proved: TcpStamps returns true for every segment, and changes no memory that was there. Conditions: none. -/
import Derived.Test.YtcobjneobdihkaaTcpB
import Derived.Test.YtcobjneobdihkaaO
import Derived.Test.YtcobjneobdihkaaArgs
namespace Go.Proofs.Ytcobjneobdihkaa
open Go.ChangeShapes Go.WideShapes Go.ChangeAt Go.RowKit
structure RSeg where
  srcPort : Nat
  dstPort : Nat
  seq : Nat
  ack : Nat
  flags : Nat
  window : Nat
  sum : Nat
  urgent : Nat
  options : Sl Nat
  load : Sl Nat
def RSeg.V (s : RSeg) : List Value := [.int .u16 (s.srcPort : Int), .int .u16 (s.dstPort : Int), .int .u32 (s.seq : Int), .int .u32 (s.ack : Int), .int .u8 (s.flags : Int), .int .u16 (s.window : Int), .int .u16 (s.sum : Int), .int .u16 (s.urgent : Int), .slice s.options.a s.options.l.length s.options.c, .slice s.load.a s.load.l.length s.load.c]
theorem RSeg.len (s : RSeg) : s.V.length = 10 := rfl
def RSeg.ok (w : World) (s : RSeg) : Prop := s.srcPort < 65536 ∧ s.dstPort < 65536 ∧ s.seq < 4294967296 ∧ s.ack < 4294967296 ∧ s.flags < 256 ∧ s.window < 65536 ∧ s.sum < 65536 ∧ s.urgent < 65536 ∧ okB w s.options ∧ okB w s.load
instance : Inhabited RSeg := ⟨⟨0, 0, 0, 0, 0, 0, 0, 0, default, default⟩⟩
theorem stampsF_le (l : List Nat) : ∀ f p q, stampsF l f p = some q → q + 8 ≤ l.length := by
  intro f
  induction f with
  | zero => intro p q h; simp [stampsF] at h
  | succ f ih =>
    intro p q h
    simp only [stampsF] at h
    split at h
    · rename_i hp
      split at h
      · exact ih _ _ h
      · split at h
        · simp at h
        · rename_i h1
          split at h
          · split at h
            · simp at h
              omega
            · simp at h
          · exact ih _ _ h
    · simp at h
theorem stampsL_le {l : List Nat} {q : Nat} (h : stampsL l 0 = some q) : q + 8 ≤ l.length := stampsF_le l _ _ _ h
theorem getN_drop0 (l : List Nat) (q k : Nat) : getN (l.drop q) 0 k = getN l q k := by simp [getN]
theorem getN_drop4 (l : List Nat) (q k : Nat) : getN (l.drop q) (0 + 4) k = getN l (q + 4) k := by simp [getN]
def stI (o : Option Nat) : Int := match o with | none => -1 | some v => (v : Int)

set_option maxRecDepth 100000 in
set_option maxHeartbeats 4000000 in
theorem stamps_none_c (n : Nat) (A : Option Addr) (c : Nat) (l : List Nat) (w0 : World) (hv : View w0 w0.heap.size A (l.map u8v)) (hl : l.length = n) (hb : Bytes l) (hn4 : n ≤ 900000) (h : stampsL l 0 = none) :
    Calls Try.prog 24 #[.slice A n c] w0 fun e w' => e = .returned (.tuple #[.int .i64 0, .bool false]) ∧ Kp [] w0 w' := by
  have h2 := stamps_c n A c l w0 hv hl hb hn4
  rw [h] at h2
  exact h2
set_option maxRecDepth 100000 in
set_option maxHeartbeats 4000000 in
theorem stamps_some_c (n : Nat) (A : Option Addr) (c : Nat) (l : List Nat) (q : Nat) (w0 : World) (hv : View w0 w0.heap.size A (l.map u8v)) (hl : l.length = n) (hb : Bytes l) (hn4 : n ≤ 900000) (h : stampsL l 0 = some q) :
    Calls Try.prog 24 #[.slice A n c] w0 fun e w' => e = .returned (.tuple #[.int .i64 (q : Int), .bool true]) ∧ Kp [] w0 w' := by
  have h2 := stamps_c n A c l w0 hv hl hb hn4
  rw [h] at h2
  exact h2

set_option maxRecDepth 100000 in
set_option maxHeartbeats 4000000 in
theorem rstamps_c (n : Nat) (A : Option Addr) (c : Nat) (l : List Nat) (w0 : World) (hv : View w0 w0.heap.size A (l.map u8v)) (hl : l.length = n) (hb : Bytes l) (hn4 : n ≤ 900000) :
    Calls Try.prog 20 #[.slice A n c] w0 fun e w' => e = .returned (.int .i64 (stI (stampsL l 0))) ∧ Kp [] w0 w' := by
  have hS := (St.sv w0).vcons rfl hv
  refine ent (n := 65) Try.func20 rfl rfl ?_
  refine wp_seq_k ?_; intro K1 hK1
  refine wlit ?_
  refine wl_v (x_assign (ev_cN 0)) ?_
  refine wl_nil ?_
  refine then_n (hK1 _ _ ?_); clear hK1 K1
  refine wp_seq_k ?_; intro K2 hK2
  refine wlit ?_
  refine wl_v (x_assign (ev_cN 0)) ?_
  refine wl_nil ?_
  refine then_n (hK2 _ _ ?_); clear hK2 K2
  refine wp_seq_k ?_; intro K3 hK3
  refine wp_block ?_
  refine lp [2, 3, 4, 5, 6, 7, 8, 9, 10, 11, 12, 13, 14, 15, 16, 17, 18, 19, 20, 21, 22, 23, 24, 25, 26, 27, 28, 29, 30, 31, 32, 33, 34, 35, 36, 37, 38, 39, 40, 41, 42, 43, 44, 45, 46, 47, 48, 49, 50, 51, 52, 53, 54, 55, 56, 57, 58, 59, 60, 61, 62, 63, 64] (fun mz g w => ∃ (p : Nat), mz = n - p ∧ g 3 = .int .i64 (p : Int) ∧ St [] w0 [.vw A (l.map u8v)] w ∧ (p ≤ n) ∧ (stampsL l 0 = stampsL l p)) ?_ ?_
  · exact ⟨_, 0, rfl, (by first | rfl | go_num | exact congrArg (Value.int _) (by first | omega | (simp; done) | (simp; omega))), hS, (by omega), (by first | rfl | exact hx1 | exact hx2)⟩
  · clear hS; intro mz g w hI
    obtain ⟨p, rfl, hs3, hS, hp, hst⟩ := hI
    refine fr_know (d := 3) hs3 ?_; clear hs3
    refine wp_seq_k ?_; intro K4 hK4
    refine wp_seq_k ?_; intro K5 hK5
    refine wlit ?_
    refine wl_v (x_move (tmI rfl rfl)) ?_
    refine wl_v (x_move (tmS rfl rfl)) ?_
    refine wl_v (x_len Try.underlying22 (tmS rfl rfl)) ?_
    refine wl_v (x_lss (tmI rfl rfl) (tmI rfl rfl)) ?_
    refine wl_v (x_move (tmB rfl rfl)) ?_
    refine gs_wl (tm (t := 9) rfl) (fun hg2_4 => ?_) (fun hg2_4 => ?_)
    · have hg2_4' := hg2_4; (try simp only [nrm] at hg2_4')
      all_goals
       obtain ⟨b4, o4, rfl⟩ := view_some hv (by rw [List.length_map]; omega)
       have e1 : l.getD p 0 = nth l p := rfl
       have e2 : l.getD (p + 1) 0 = nth l (p + 1) := rfl
       have q1 := nth_lt hb p
       have q2 := nth_lt hb (p + 1)
       have hu := stampsL_eq l p
       refine wl_gv (want_y rfl rfl rfl rfl (by rw [hg2_4]; rfl)) (x_move (tmS rfl rfl)) ?_
       refine wl_gv (want_y rfl rfl rfl rfl (by rw [hg2_4]; rfl)) (x_move (tmI rfl rfl)) ?_
       refine wl_gv (want_y rfl rfl rfl rfl (by rw [hg2_4]; rfl)) (x_ixs1 Try.underlying22 ts_5 (tmS rfl rfl) (tmI rfl rfl) (by omega)) ?_
       refine wl_gv (want_y rfl rfl rfl rfl (by rw [hg2_4]; rfl)) (x_load Try.underlying5 rfl (tmP rfl rfl) (cellV hS.ok 0 rfl (getm (by omega)))) ?_
       refine wl_gv (want_y rfl rfl rfl rfl (by rw [hg2_4]; rfl)) (x_neq (tmI rfl rfl) (ev_cN 0)) ?_
       refine wl_v (x_pickT (tmB rfl rfl) hg2_4 (tmB rfl rfl)) ?_
       refine wl_nil ?_
       refine then_n (hK5 _ _ ?_); clear hK5 K5
       refine cnd (tm rfl) (fun hc0 => ?_) (fun hc0 => ?_)
       · skip
         all_goals
          try simp only [nrm] at hc0
          refine wp_skip ?_
          refine then_n (hK4 _ _ ?_); clear hK4 K4
          refine wp_block ?_
          refine wp_seq_k ?_; intro K6 hK6
          refine wp_seq_k ?_; intro K7 hK7
          refine wlit ?_
          refine wl_v (x_move (tmS rfl rfl)) ?_
          refine wl_v (x_move (tmI rfl rfl)) ?_
          refine wl_v (x_ixs1 Try.underlying22 ts_5 (tmS rfl rfl) (tmI rfl rfl) (by omega)) ?_
          refine wl_v (x_load Try.underlying5 rfl (tmP rfl rfl) (cellV hS.ok 0 rfl (getm (by omega)))) ?_
          refine wl_v (x_eql (tmI rfl rfl) (ev_cN 1)) ?_
          refine wl_nil ?_
          refine then_n (hK7 _ _ ?_); clear hK7 K7
          refine cnd (tm rfl) (fun hc1 => ?_) (fun hc1 => ?_)
          · skip
            all_goals
             try simp only [nrm] at hc1
             have hx1 : stampsL l 0 = stampsL l (p + 1) := by rw [hst, hu, if_pos ⟨by omega, by omega⟩, if_pos (by omega)]
             refine wp_seq_k ?_; intro K8 hK8
             refine wlit ?_
             refine wl_v (x_move (tmI rfl rfl)) ?_
             refine wl_v (x_addN (tmI rfl rfl) (ev_cN 1) (fit_i64 (by omega))) ?_
             refine wl_v (x_assign (tmI rfl rfl)) ?_
             refine wl_nil ?_
             refine then_n (hK8 _ _ ?_); clear hK8 K8
             refine wp_exit ?_
             refine then_x ?_; clear hK6 K6
             refine inb_x ?_
             exact then_n ⟨_, _, rfl, (by show _ < _; omega), (by repeat (first | exact agree_self | exact agree_refl | refine agree_upd rfl ?_ | refine agree_mix rfl ?_)), p + 1, rfl, (by first | rfl | go_num | exact congrArg (Value.int _) (by first | omega | (simp; done) | (simp; omega))), hS, (by omega), (by first | rfl | exact hx1 | exact hx2)⟩
          all_goals
           try simp only [nrm] at hc1
           refine wp_skip ?_
           refine then_n (hK6 _ _ ?_); clear hK6 K6
           refine wp_seq_k ?_; intro K9 hK9
           refine wp_seq_k ?_; intro K10 hK10
           refine wlit ?_
           refine wl_v (x_move (tmI rfl rfl)) ?_
           refine wl_v (x_addN (tmI rfl rfl) (ev_cN 1) (fit_i64 (by omega))) ?_
           refine wl_v (x_move (tmS rfl rfl)) ?_
           refine wl_v (x_len Try.underlying22 (tmS rfl rfl)) ?_
           refine wl_v (x_eql (tmI rfl rfl) (tmI rfl rfl)) ?_
           refine wl_nil ?_
           refine then_n (hK10 _ _ ?_); clear hK10 K10
           refine cnd (tm rfl) (fun hc2 => ?_) (fun hc2 => ?_)
           · skip
             all_goals
              try simp only [nrm] at hc2
              refine wp_seq_k ?_; intro K11 hK11
              refine wlit ?_
              refine wl_v (x_assign ev_c) ?_
              refine wl_nil ?_
              refine then_n (hK11 _ _ ?_); clear hK11 K11
              refine wp_ret ?_
              refine then_r ?_
              refine inb_r ?_
              refine then_r ?_
              refine inb_r ?_
              refine then_r ?_
              refine ret1 rfl (.tmp rfl (show _ = Value.int _ _ from rfl)) ?_
              have hu := stampsL_eq l p
              have e1 : l.getD p 0 = nth l p := rfl
              have e2 : l.getD (p + 1) 0 = nth l (p + 1) := rfl
              refine ⟨?_, hS.kp⟩
              rw [hst]
              first
                | (rw [if_neg (by omega)] at hu
                   rw [hu]; rfl)
                | (rw [if_pos ⟨by omega, by omega⟩, if_neg (by omega), if_pos (by omega)] at hu
                   rw [hu]; rfl)
                | (rw [if_pos ⟨by omega, by omega⟩, if_neg (by omega), if_neg (by omega), if_pos (by omega), if_neg (by omega)] at hu
                   rw [hu]; rfl)
                | (rw [if_pos ⟨by omega, by omega⟩, if_neg (by omega), if_neg (by omega), if_pos (by omega), if_pos (by omega)] at hu
                   rw [hu]; rfl)
           all_goals
            try simp only [nrm] at hc2
            refine wp_skip ?_
            refine then_n (hK9 _ _ ?_); clear hK9 K9
            refine wp_seq_k ?_; intro K12 hK12
            refine wlit ?_
            refine wl_v (x_move (tmS rfl rfl)) ?_
            refine wl_v (x_move (tmI rfl rfl)) ?_
            refine wl_v (x_addN (tmI rfl rfl) (ev_cN 1) (fit_i64 (by omega))) ?_
            refine wl_v (x_ixs1 Try.underlying22 ts_5 (tmS rfl rfl) (tmI rfl rfl) (by omega)) ?_
            refine wl_v (x_load Try.underlying5 rfl (tmP rfl rfl) (cellV hS.ok 0 rfl (getm (by omega)))) ?_
            refine wl_v (x_convN Try.underlying5 Try.underlying3 (tmI rfl rfl) (fit_i64 (by omega))) ?_
            refine wl_v (x_assign (tmI rfl rfl)) ?_
            refine wl_nil ?_
            refine then_n (hK12 _ _ ?_); clear hK12 K12
            refine wp_seq_k ?_; intro K13 hK13
            refine wp_seq_k ?_; intro K14 hK14
            refine wlit ?_
            refine wl_v (x_move (tmI rfl rfl)) ?_
            refine wl_v (x_lss (tmI rfl rfl) (ev_cN 2)) ?_
            refine wl_v (x_move (tmB rfl rfl)) ?_
            refine gs_wl (tm (t := 36) rfl) (fun hg8_2 => ?_) (fun hg8_2 => ?_)
            · have hg8_2' := hg8_2; (try simp only [nrm] at hg8_2')
              all_goals
               refine wl_s rfl (want_n rfl rfl rfl rfl (by rw [hg8_2]; rfl)) ?_
               refine wl_s rfl (want_n rfl rfl rfl rfl (by rw [hg8_2]; rfl)) ?_
               refine wl_s rfl (want_n rfl rfl rfl rfl (by rw [hg8_2]; rfl)) ?_
               refine wl_s rfl (want_n rfl rfl rfl rfl (by rw [hg8_2]; rfl)) ?_
               refine wl_s rfl (want_n rfl rfl rfl rfl (by rw [hg8_2]; rfl)) ?_
               refine wl_s rfl (want_n rfl rfl rfl rfl (by rw [hg8_2]; rfl)) ?_
               refine wl_v (x_pickT (tmB rfl rfl) hg8_2 ev_c) ?_
               refine wl_v (x_move (tmB rfl rfl)) ?_
               refine wl_s rfl (want_n rfl rfl rfl rfl rfl) ?_
               refine wl_s rfl (want_n rfl rfl rfl rfl rfl) ?_
               refine wl_s rfl (want_n rfl rfl rfl rfl rfl) ?_
               refine wl_s rfl (want_n rfl rfl rfl rfl rfl) ?_
               refine wl_s rfl (want_n rfl rfl rfl rfl rfl) ?_
               refine wl_s rfl (want_n rfl rfl rfl rfl rfl) ?_
               refine wl_s rfl (want_u rfl rfl rfl rfl) ?_
               refine wl_s rfl (want_u rfl rfl rfl rfl) ?_
               refine wl_s rfl (want_n rfl rfl rfl rfl rfl) ?_
               refine wl_v (x_pickT (tmB rfl rfl) rfl ev_c) ?_
               refine wl_nil ?_
               refine then_n (hK14 _ _ ?_); clear hK14 K14
               refine cnd_t (tmB rfl rfl) rfl ?_
               refine wp_seq_k ?_; intro K15 hK15
               refine wlit ?_
               refine wl_v (x_assign ev_c) ?_
               refine wl_nil ?_
               refine then_n (hK15 _ _ ?_); clear hK15 K15
               refine wp_ret ?_
               refine then_r ?_
               refine inb_r ?_
               refine then_r ?_
               refine inb_r ?_
               refine then_r ?_
               refine ret1 rfl (.tmp rfl (show _ = Value.int _ _ from rfl)) ?_
               have hu := stampsL_eq l p
               have e1 : l.getD p 0 = nth l p := rfl
               have e2 : l.getD (p + 1) 0 = nth l (p + 1) := rfl
               refine ⟨?_, hS.kp⟩
               rw [hst]
               first
                 | (rw [if_neg (by omega)] at hu
                    rw [hu]; rfl)
                 | (rw [if_pos ⟨by omega, by omega⟩, if_neg (by omega), if_pos (by omega)] at hu
                    rw [hu]; rfl)
                 | (rw [if_pos ⟨by omega, by omega⟩, if_neg (by omega), if_neg (by omega), if_pos (by omega), if_neg (by omega)] at hu
                    rw [hu]; rfl)
                 | (rw [if_pos ⟨by omega, by omega⟩, if_neg (by omega), if_neg (by omega), if_pos (by omega), if_pos (by omega)] at hu
                    rw [hu]; rfl)
            have hg8_2' := hg8_2; (try simp only [nrm] at hg8_2')
            all_goals
             refine wl_gv (want_y rfl rfl rfl rfl (by rw [hg8_2]; rfl)) (x_move (tmI rfl rfl)) ?_
             refine wl_gv (want_y rfl rfl rfl rfl (by rw [hg8_2]; rfl)) (x_move (tmI rfl rfl)) ?_
             refine wl_gv (want_y rfl rfl rfl rfl (by rw [hg8_2]; rfl)) (x_addN (tmI rfl rfl) (tmI rfl rfl) (fit_i64 (by omega))) ?_
             refine wl_gv (want_y rfl rfl rfl rfl (by rw [hg8_2]; rfl)) (x_move (tmS rfl rfl)) ?_
             refine wl_gv (want_y rfl rfl rfl rfl (by rw [hg8_2]; rfl)) (x_len Try.underlying22 (tmS rfl rfl)) ?_
             refine wl_gv (want_y rfl rfl rfl rfl (by rw [hg8_2]; rfl)) (x_gtr (tmI rfl rfl) (tmI rfl rfl)) ?_
             refine wl_v (x_pickF (tmB rfl rfl) hg8_2 (tmB rfl rfl)) ?_
             refine wl_v (x_move (tmB rfl rfl)) ?_
             refine gs_wl (tm (t := 44) rfl) (fun hg8_10 => ?_) (fun hg8_10 => ?_)
             · have hg8_10' := hg8_10; (try simp only [nrm] at hg8_10')
               all_goals
                refine wl_s rfl (want_n rfl rfl rfl rfl (by rw [hg8_10]; rfl)) ?_
                refine wl_s rfl (want_n rfl rfl rfl rfl (by rw [hg8_10]; rfl)) ?_
                refine wl_s rfl (want_n rfl rfl rfl rfl (by rw [hg8_10]; rfl)) ?_
                refine wl_s rfl (want_n rfl rfl rfl rfl (by rw [hg8_10]; rfl)) ?_
                refine wl_s rfl (want_n rfl rfl rfl rfl (by rw [hg8_10]; rfl)) ?_
                refine wl_s rfl (want_n rfl rfl rfl rfl (by rw [hg8_10]; rfl)) ?_
                refine wl_s rfl (want_u rfl rfl rfl rfl) ?_
                refine wl_s rfl (want_u rfl rfl rfl rfl) ?_
                refine wl_s rfl (want_n rfl rfl rfl rfl (by rw [hg8_10]; rfl)) ?_
                refine wl_v (x_pickT (tmB rfl rfl) hg8_10 ev_c) ?_
                refine wl_nil ?_
                refine then_n (hK14 _ _ ?_); clear hK14 K14
                refine cnd_t (tmB rfl rfl) rfl ?_
                refine wp_seq_k ?_; intro K16 hK16
                refine wlit ?_
                refine wl_v (x_assign ev_c) ?_
                refine wl_nil ?_
                refine then_n (hK16 _ _ ?_); clear hK16 K16
                refine wp_ret ?_
                refine then_r ?_
                refine inb_r ?_
                refine then_r ?_
                refine inb_r ?_
                refine then_r ?_
                refine ret1 rfl (.tmp rfl (show _ = Value.int _ _ from rfl)) ?_
                have hu := stampsL_eq l p
                have e1 : l.getD p 0 = nth l p := rfl
                have e2 : l.getD (p + 1) 0 = nth l (p + 1) := rfl
                refine ⟨?_, hS.kp⟩
                rw [hst]
                first
                  | (rw [if_neg (by omega)] at hu
                     rw [hu]; rfl)
                  | (rw [if_pos ⟨by omega, by omega⟩, if_neg (by omega), if_pos (by omega)] at hu
                     rw [hu]; rfl)
                  | (rw [if_pos ⟨by omega, by omega⟩, if_neg (by omega), if_neg (by omega), if_pos (by omega), if_neg (by omega)] at hu
                     rw [hu]; rfl)
                  | (rw [if_pos ⟨by omega, by omega⟩, if_neg (by omega), if_neg (by omega), if_pos (by omega), if_pos (by omega)] at hu
                     rw [hu]; rfl)
             have hg8_10' := hg8_10; (try simp only [nrm] at hg8_10')
             all_goals
              refine wl_gv (want_y rfl rfl rfl rfl (by rw [hg8_10]; rfl)) (x_move (tmS rfl rfl)) ?_
              refine wl_gv (want_y rfl rfl rfl rfl (by rw [hg8_10]; rfl)) (x_move (tmI rfl rfl)) ?_
              refine wl_gv (want_y rfl rfl rfl rfl (by rw [hg8_10]; rfl)) (x_ixs1 Try.underlying22 ts_5 (tmS rfl rfl) (tmI rfl rfl) (by omega)) ?_
              refine wl_gv (want_y rfl rfl rfl rfl (by rw [hg8_10]; rfl)) (x_load Try.underlying5 rfl (tmP rfl rfl) (cellV hS.ok 0 rfl (getm (by omega)))) ?_
              refine wl_gv (want_y rfl rfl rfl rfl (by rw [hg8_10]; rfl)) (x_eql (tmI rfl rfl) (ev_cN 8)) ?_
              refine wl_gv (want_y rfl rfl rfl rfl (by rw [hg8_10]; rfl)) (x_move (tmB rfl rfl)) ?_
              refine gs_wl (tm (t := 50) rfl) (fun hg8_16 => ?_) (fun hg8_16 => ?_)
              · have hg8_16' := hg8_16; (try simp only [nrm] at hg8_16')
                all_goals
                 refine wl_gv (want_y rfl rfl rfl rfl (by rw [hg8_16]; rfl)) (x_move (tmI rfl rfl)) ?_
                 refine wl_gv (want_y rfl rfl rfl rfl (by rw [hg8_16]; rfl)) (x_neq (tmI rfl rfl) (ev_cN 10)) ?_
                 refine wl_gv (want_y rfl rfl rfl rfl (by rw [hg8_10]; rfl)) (x_pickT (tmB rfl rfl) hg8_16 (tmB rfl rfl)) ?_
                 refine wl_v (x_pickF (tmB rfl rfl) hg8_10 (tmB rfl rfl)) ?_
                 refine wl_nil ?_
                 refine then_n (hK14 _ _ ?_); clear hK14 K14
                 refine cnd (tm rfl) (fun hc3 => ?_) (fun hc3 => ?_)
                 · skip
                   all_goals
                    try simp only [nrm] at hc3
                    refine wp_seq_k ?_; intro K17 hK17
                    refine wlit ?_
                    refine wl_v (x_assign ev_c) ?_
                    refine wl_nil ?_
                    refine then_n (hK17 _ _ ?_); clear hK17 K17
                    refine wp_ret ?_
                    refine then_r ?_
                    refine inb_r ?_
                    refine then_r ?_
                    refine inb_r ?_
                    refine then_r ?_
                    refine ret1 rfl (.tmp rfl (show _ = Value.int _ _ from rfl)) ?_
                    have hu := stampsL_eq l p
                    have e1 : l.getD p 0 = nth l p := rfl
                    have e2 : l.getD (p + 1) 0 = nth l (p + 1) := rfl
                    refine ⟨?_, hS.kp⟩
                    rw [hst]
                    first
                      | (rw [if_neg (by omega)] at hu
                         rw [hu]; rfl)
                      | (rw [if_pos ⟨by omega, by omega⟩, if_neg (by omega), if_pos (by omega)] at hu
                         rw [hu]; rfl)
                      | (rw [if_pos ⟨by omega, by omega⟩, if_neg (by omega), if_neg (by omega), if_pos (by omega), if_neg (by omega)] at hu
                         rw [hu]; rfl)
                      | (rw [if_pos ⟨by omega, by omega⟩, if_neg (by omega), if_neg (by omega), if_pos (by omega), if_pos (by omega)] at hu
                         rw [hu]; rfl)
                 all_goals
                  try simp only [nrm] at hc3
                  refine wp_skip ?_
                  refine then_n (hK13 _ _ ?_); clear hK13 K13
                  refine wp_seq_k ?_; intro K18 hK18
                  refine wp_seq_k ?_; intro K19 hK19
                  refine wlit ?_
                  refine wl_v (x_move (tmS rfl rfl)) ?_
                  refine wl_v (x_move (tmI rfl rfl)) ?_
                  refine wl_v (x_ixs1 Try.underlying22 ts_5 (tmS rfl rfl) (tmI rfl rfl) (by omega)) ?_
                  refine wl_v (x_load Try.underlying5 rfl (tmP rfl rfl) (cellV hS.ok 0 rfl (getm (by omega)))) ?_
                  refine wl_v (x_eql (tmI rfl rfl) (ev_cN 8)) ?_
                  refine wl_nil ?_
                  refine then_n (hK19 _ _ ?_); clear hK19 K19
                  refine cnd (tm rfl) (fun hc4 => ?_) (fun hc4 => ?_)
                  · skip
                    all_goals
                     try simp only [nrm] at hc4
                     refine wp_seq_k ?_; intro K20 hK20
                     refine wlit ?_
                     refine wl_v (x_move (tmI rfl rfl)) ?_
                     refine wl_v (x_addN (tmI rfl rfl) (ev_cN 2) (fit_i64 (by omega))) ?_
                     refine wl_v (x_assign (tmI rfl rfl)) ?_
                     refine wl_nil ?_
                     refine then_n (hK20 _ _ ?_); clear hK20 K20
                     refine wp_ret ?_
                     refine then_r ?_
                     refine inb_r ?_
                     refine then_r ?_
                     refine inb_r ?_
                     refine then_r ?_
                     refine ret1 rfl (.tmp rfl (show _ = Value.int _ _ from rfl)) ?_
                     have hu := stampsL_eq l p
                     have e1 : l.getD p 0 = nth l p := rfl
                     have e2 : l.getD (p + 1) 0 = nth l (p + 1) := rfl
                     refine ⟨?_, hS.kp⟩
                     rw [hst]
                     first
                       | (rw [if_neg (by omega)] at hu
                          rw [hu]; rfl)
                       | (rw [if_pos ⟨by omega, by omega⟩, if_neg (by omega), if_pos (by omega)] at hu
                          rw [hu]; rfl)
                       | (rw [if_pos ⟨by omega, by omega⟩, if_neg (by omega), if_neg (by omega), if_pos (by omega), if_neg (by omega)] at hu
                          rw [hu]; rfl)
                       | (rw [if_pos ⟨by omega, by omega⟩, if_neg (by omega), if_neg (by omega), if_pos (by omega), if_pos (by omega)] at hu
                          rw [hu]; rfl)
                  try (exfalso; first | with_reducible exact absurd hc4 Bool.false_ne_true | with_reducible exact absurd hc4.symm Bool.false_ne_true | (simp only [nrm] at hc4; omega) | (simp at hc4; done))
                  all_goals
                   try simp only [nrm] at hc4
                   have hx2 : stampsL l 0 = stampsL l (p + l.getD (p + 1) 0) := by rw [hst, hu, if_pos ⟨by omega, by omega⟩, if_neg (by omega), if_neg (by omega), if_neg (by omega)]; rfl
                   refine wp_skip ?_
                   refine then_n (hK18 _ _ ?_); clear hK18 K18
                   refine wlit ?_
                   refine wl_v (x_move (tmI rfl rfl)) ?_
                   refine wl_v (x_move (tmI rfl rfl)) ?_
                   first
                    | refine wl_v (x_addN (tmI rfl rfl) (tmI rfl rfl) (fit_i64 (by omega))) ?_
                    | refine wl_v (x_addI (tmI rfl rfl) (tmI rfl rfl) (IntWalk.i64_in _ (by omega))) ?_
                    | refine wl_v (x_add (tmI rfl rfl) (tmI rfl rfl)) ?_
                   refine wl_v (x_assign (tmI rfl rfl)) ?_
                   refine wl_nil ?_
                   refine inb_n ?_
                   first
                    | exact then_n ⟨_, _, rfl, (by show _ < _; omega), (by repeat (first | exact agree_self | exact agree_refl | refine agree_upd rfl ?_ | refine agree_mix rfl ?_)), p + 1, rfl, (by first | rfl | go_num | exact congrArg (Value.int _) (by first | omega | (simp; done) | (simp; omega))), hS, (by omega), (by first | rfl | exact hx1 | exact hx2)⟩
                    | exact then_n ⟨_, _, rfl, (by show _ < _; omega), (by repeat (first | exact agree_self | exact agree_refl | refine agree_upd rfl ?_ | refine agree_mix rfl ?_)), p + l.getD (p + 1) 0, rfl, (by first | rfl | go_num | exact congrArg (Value.int _) (by first | omega | (simp; done) | (simp; omega))), hS, (by omega), (by first | rfl | exact hx1 | exact hx2)⟩
              have hg8_16' := hg8_16; (try simp only [nrm] at hg8_16')
              all_goals
               refine wl_s rfl (want_n rfl rfl rfl rfl (by rw [hg8_16]; rfl)) ?_
               refine wl_s rfl (want_n rfl rfl rfl rfl (by rw [hg8_16]; rfl)) ?_
               refine wl_gv (want_y rfl rfl rfl rfl (by rw [hg8_10]; rfl)) (x_pickF (tmB rfl rfl) hg8_16 ev_c) ?_
               refine wl_v (x_pickF (tmB rfl rfl) hg8_10 (tmB rfl rfl)) ?_
               refine wl_nil ?_
               refine then_n (hK14 _ _ ?_); clear hK14 K14
               refine cnd_f (tmB rfl rfl) rfl ?_
               refine wp_skip ?_
               refine then_n (hK13 _ _ ?_); clear hK13 K13
               refine wp_seq_k ?_; intro K21 hK21
               refine wp_seq_k ?_; intro K22 hK22
               refine wlit ?_
               refine wl_v (x_move (tmS rfl rfl)) ?_
               refine wl_v (x_move (tmI rfl rfl)) ?_
               refine wl_v (x_ixs1 Try.underlying22 ts_5 (tmS rfl rfl) (tmI rfl rfl) (by omega)) ?_
               refine wl_v (x_load Try.underlying5 rfl (tmP rfl rfl) (cellV hS.ok 0 rfl (getm (by omega)))) ?_
               refine wl_v (x_eql (tmI rfl rfl) (ev_cN 8)) ?_
               refine wl_nil ?_
               refine then_n (hK22 _ _ ?_); clear hK22 K22
               refine cnd (tm rfl) (fun hc4 => ?_) (fun hc4 => ?_)
               · try (exfalso; first | with_reducible exact absurd hc4 Bool.false_ne_true | with_reducible exact absurd hc4.symm Bool.false_ne_true | (simp only [nrm] at hc4; omega) | (simp at hc4; done))
                 all_goals
                  try simp only [nrm] at hc4
                  refine wp_seq_k ?_; intro K23 hK23
                  refine wlit ?_
                  refine wl_v (x_move (tmI rfl rfl)) ?_
                  first
                   | refine wl_v (x_addN (tmI rfl rfl) (ev_cN 2) (fit_i64 (by omega))) ?_
                   | refine wl_v (x_addI (tmI rfl rfl) (ev_cN 2) (IntWalk.i64_in _ (by omega))) ?_
                   | refine wl_v (x_add (tmI rfl rfl) (ev_cN 2)) ?_
                  refine wl_v (x_assign (tmI rfl rfl)) ?_
                  refine wl_nil ?_
                  refine then_n (hK23 _ _ ?_); clear hK23 K23
                  refine wp_ret ?_
                  refine then_r ?_
                  refine inb_r ?_
                  refine then_r ?_
                  refine inb_r ?_
                  refine then_r ?_
                  refine ret1 rfl (.tmp rfl (show _ = Value.int _ _ from rfl)) ?_
                  have hu := stampsL_eq l p
                  have e1 : l.getD p 0 = nth l p := rfl
                  have e2 : l.getD (p + 1) 0 = nth l (p + 1) := rfl
                  refine ⟨?_, hS.kp⟩
                  rw [hst]
                  first
                    | (rw [if_neg (by omega)] at hu
                       rw [hu]; rfl)
                    | (rw [if_pos ⟨by omega, by omega⟩, if_neg (by omega), if_pos (by omega)] at hu
                       rw [hu]; rfl)
                    | (rw [if_pos ⟨by omega, by omega⟩, if_neg (by omega), if_neg (by omega), if_pos (by omega), if_neg (by omega)] at hu
                       rw [hu]; rfl)
                    | (rw [if_pos ⟨by omega, by omega⟩, if_neg (by omega), if_neg (by omega), if_pos (by omega), if_pos (by omega)] at hu
                       rw [hu]; rfl)
               all_goals
                try simp only [nrm] at hc4
                have hx2 : stampsL l 0 = stampsL l (p + l.getD (p + 1) 0) := by rw [hst, hu, if_pos ⟨by omega, by omega⟩, if_neg (by omega), if_neg (by omega), if_neg (by omega)]; rfl
                refine wp_skip ?_
                refine then_n (hK21 _ _ ?_); clear hK21 K21
                refine wlit ?_
                refine wl_v (x_move (tmI rfl rfl)) ?_
                refine wl_v (x_move (tmI rfl rfl)) ?_
                refine wl_v (x_addN (tmI rfl rfl) (tmI rfl rfl) (fit_i64 (by omega))) ?_
                refine wl_v (x_assign (tmI rfl rfl)) ?_
                refine wl_nil ?_
                refine inb_n ?_
                exact then_n ⟨_, _, rfl, (by show _ < _; omega), (by repeat (first | exact agree_self | exact agree_refl | refine agree_upd rfl ?_ | refine agree_mix rfl ?_)), p + l.getD (p + 1) 0, rfl, (by first | rfl | go_num | exact congrArg (Value.int _) (by first | omega | (simp; done) | (simp; omega))), hS, (by omega), (by first | rfl | exact hx1 | exact hx2)⟩
       all_goals
        try simp only [nrm] at hc0
        refine wp_exit ?_
        refine then_x ?_; clear hK4 K4
        refine then_x ?_
        refine inb_x ?_
        refine then_n (hK3 _ _ ?_); clear hK3 K3
        refine wp_seq_k ?_; intro K24 hK24
        refine wlit ?_
        refine wl_v (x_assign ev_c) ?_
        refine wl_nil ?_
        refine then_n (hK24 _ _ ?_); clear hK24 K24
        refine wp_ret ?_
        refine ret1 rfl (.tmp rfl (show _ = Value.int _ _ from rfl)) ?_
        have hu := stampsL_eq l p
        have e1 : l.getD p 0 = nth l p := rfl
        have e2 : l.getD (p + 1) 0 = nth l (p + 1) := rfl
        refine ⟨?_, hS.kp⟩
        rw [hst]
        first
          | (rw [if_neg (by omega)] at hu
             rw [hu]; rfl)
          | (rw [if_pos ⟨by omega, by omega⟩, if_neg (by omega), if_pos (by omega)] at hu
             rw [hu]; rfl)
          | (rw [if_pos ⟨by omega, by omega⟩, if_neg (by omega), if_neg (by omega), if_pos (by omega), if_neg (by omega)] at hu
             rw [hu]; rfl)
          | (rw [if_pos ⟨by omega, by omega⟩, if_neg (by omega), if_neg (by omega), if_pos (by omega), if_pos (by omega)] at hu
             rw [hu]; rfl)
    have hg2_4' := hg2_4; (try simp only [nrm] at hg2_4')
    all_goals
     refine wl_s rfl (want_n rfl rfl rfl rfl (by rw [hg2_4]; rfl)) ?_
     refine wl_s rfl (want_n rfl rfl rfl rfl (by rw [hg2_4]; rfl)) ?_
     refine wl_s rfl (want_n rfl rfl rfl rfl (by rw [hg2_4]; rfl)) ?_
     refine wl_s rfl (want_n rfl rfl rfl rfl (by rw [hg2_4]; rfl)) ?_
     refine wl_s rfl (want_n rfl rfl rfl rfl (by rw [hg2_4]; rfl)) ?_
     refine wl_v (x_pickF (tmB rfl rfl) hg2_4 ev_c) ?_
     refine wl_nil ?_
     refine then_n (hK5 _ _ ?_); clear hK5 K5
     refine cnd_f (tmB rfl rfl) rfl ?_
     refine wp_exit ?_
     refine then_x ?_; clear hK4 K4
     refine then_x ?_
     refine inb_x ?_
     refine then_n (hK3 _ _ ?_); clear hK3 K3
     refine wp_seq_k ?_; intro K25 hK25
     refine wlit ?_
     refine wl_v (x_assign ev_c) ?_
     refine wl_nil ?_
     refine then_n (hK25 _ _ ?_); clear hK25 K25
     refine wp_ret ?_
     refine ret1 rfl (.tmp rfl (show _ = Value.int _ _ from rfl)) ?_
     have hu := stampsL_eq l p
     have e1 : l.getD p 0 = nth l p := rfl
     have e2 : l.getD (p + 1) 0 = nth l (p + 1) := rfl
     refine ⟨?_, hS.kp⟩
     rw [hst]
     first
       | (rw [if_neg (by omega)] at hu
          rw [hu]; rfl)
       | (rw [if_pos ⟨by omega, by omega⟩, if_neg (by omega), if_pos (by omega)] at hu
          rw [hu]; rfl)
       | (rw [if_pos ⟨by omega, by omega⟩, if_neg (by omega), if_neg (by omega), if_pos (by omega), if_neg (by omega)] at hu
          rw [hu]; rfl)
       | (rw [if_pos ⟨by omega, by omega⟩, if_neg (by omega), if_neg (by omega), if_pos (by omega), if_pos (by omega)] at hu
          rw [hu]; rfl)
set_option maxRecDepth 100000 in
set_option maxHeartbeats 4000000 in
theorem rstamps_none_c (n : Nat) (A : Option Addr) (c : Nat) (l : List Nat) (w0 : World) (hv : View w0 w0.heap.size A (l.map u8v)) (hl : l.length = n) (hb : Bytes l) (hn4 : n ≤ 900000) (h : stampsL l 0 = none) :
    Calls Try.prog 20 #[.slice A n c] w0 fun e w' => e = .returned (.int .i64 (-1)) ∧ Kp [] w0 w' := by
  have h2 := rstamps_c n A c l w0 hv hl hb hn4
  rw [h] at h2
  exact h2
set_option maxRecDepth 100000 in
set_option maxHeartbeats 4000000 in
theorem rstamps_some_c (n : Nat) (A : Option Addr) (c : Nat) (l : List Nat) (q : Nat) (w0 : World) (hv : View w0 w0.heap.size A (l.map u8v)) (hl : l.length = n) (hb : Bytes l) (hn4 : n ≤ 900000) (h : stampsL l 0 = some q) :
    Calls Try.prog 20 #[.slice A n c] w0 fun e w' => e = .returned (.int .i64 (q : Int)) ∧ Kp [] w0 w' := by
  have h2 := rstamps_c n A c l w0 hv hl hb hn4
  rw [h] at h2
  exact h2

set_option maxRecDepth 100000 in
set_option maxHeartbeats 4000000 in
theorem stamp_none_c (a1 a2 a3 a4 a5 a6 a7 a8 : Nat) (O : Option Addr) (m c : Nat) (L : Option Addr) (k d : Nat) (o : List Nat) (w0 : World) (hv : View w0 w0.heap.size O (o.map u8v)) (hl : o.length = m) (hb : Bytes o) (hn4 : m ≤ 900000) (h : stampsL o 0 = none) :
    Calls Try.prog 10 #[.agg (segV a1 a2 a3 a4 a5 a6 a7 a8 O m c L k d).toArray] w0 fun e w' => e = .returned (.tuple #[.int .u32 0, .int .u32 0, .bool false]) ∧ Kp [] w0 w' := by
  have hS := (St.sv w0).vcons rfl hv
  refine ent (n := 24) Try.func10 rfl rfl ?_
  refine wp_seq_k ?_; intro K1 hK1
  refine wlit ?_
  refine wl_e rfl ?_; intro K hK
  refine ow_box hS (tmA rfl rfl) rfl ?_
  clear hS; intro g0_0 w hg0_0 hS
  refine hK _ _ ?_; clear hK K
  refine wl_v (x_assign (ev_cN 0)) ?_
  refine wl_v (x_assign (ev_cN 0)) ?_
  refine wl_v (x_assign ev_c) ?_
  refine wl_nil ?_
  refine then_n (hK1 _ _ ?_); clear hK1 K1
  refine wp_seq_k ?_; intro K2 hK2
  refine wlit ?_
  refine wl_v (x_fa 8 Try.underlying49 rfl rfl ts_22 (tmP rfl rfl)) ?_
  refine wl_v (x_load Try.underlying22 rfl (tmP rfl rfl) (cellB hS.ok 0 rfl rfl)) ?_
  refine wl_e rfl ?_; intro K hK
  refine ow_call Try.func24 rfl rfl (evs_cons (tmS rfl rfl) <| evs_nil) (stamps_none_c m O c o _ (viewV hS.ok 1 rfl) hl hb hn4 h) ?_
  rintro e w ⟨rfl, hk⟩
  refine ⟨_, rfl, ?_⟩
  replace hS := hS.kept hk
  clear hk
  refine hK _ _ ?_; clear hK K
  refine wl_v (x_move (tmT rfl rfl)) ?_
  refine wl_v (x_ext (tmT rfl rfl) rfl) ?_
  refine wl_v (x_ext (tmT rfl rfl) rfl) ?_
  refine wl_v (x_assign (tmI rfl rfl)) ?_
  refine wl_v (x_assign (tmB rfl rfl)) ?_
  refine wl_nil ?_
  refine then_n (hK2 _ _ ?_); clear hK2 K2
  refine wp_seq_k ?_; intro K3 hK3
  refine wp_seq_k ?_; intro K4 hK4
  refine wlit ?_
  refine wl_v (x_move (tmB rfl rfl)) ?_
  refine wl_v (x_not (tmB rfl rfl)) ?_
  refine wl_nil ?_
  refine then_n (hK4 _ _ ?_); clear hK4 K4
  refine cnds (tm rfl) (fun hc0 => ?_) (fun hc0 => ?_)
  · exfalso
    simp at hc0
  all_goals
   try simp only [nrm] at hc0
   refine wp_seq_k ?_; intro K5 hK5
   refine wlit ?_
   refine wl_v (x_assign (ev_cN 0)) ?_
   refine wl_v (x_assign (ev_cN 0)) ?_
   refine wl_v (x_assign ev_c) ?_
   refine wl_nil ?_
   refine then_n (hK5 _ _ ?_); clear hK5 K5
   refine wp_ret ?_
   refine then_r ?_
   refine ret3 rfl (.tmp rfl (show _ = Value.int _ _ from rfl)) (.tmp rfl (show _ = Value.int _ _ from rfl)) (.tmp rfl (show _ = Value.bool _ from rfl)) ?_
   exact ⟨rfl, hS.kp⟩
set_option maxRecDepth 100000 in
set_option maxHeartbeats 4000000 in
theorem stamp_some_c (a1 a2 a3 a4 a5 a6 a7 a8 : Nat) (O : Option Addr) (m c : Nat) (L : Option Addr) (k d : Nat) (o : List Nat) (q : Nat) (w0 : World) (hv : View w0 w0.heap.size O (o.map u8v)) (hl : o.length = m) (hmc : m ≤ c) (hb : Bytes o) (hn4 : m ≤ 900000) (h : stampsL o 0 = some q) :
    Calls Try.prog 10 #[.agg (segV a1 a2 a3 a4 a5 a6 a7 a8 O m c L k d).toArray] w0 fun e w' => e = .returned (.tuple #[.int .u32 ((getN o q 4 : Nat) : Int), .int .u32 ((getN o (q + 4) 4 : Nat) : Int), .bool true]) ∧ Kp [] w0 w' := by
  have hS := (St.sv w0).vcons rfl hv
  have hq := stampsL_le h
  have hl2 : (o.drop q).length = m - q := by rw [List.length_drop, hl]
  have hb2 : Bytes (o.drop q) := hb.drop q
  refine ent (n := 24) Try.func10 rfl rfl ?_
  refine wp_seq_k ?_; intro K1 hK1
  refine wlit ?_
  refine wl_e rfl ?_; intro K hK
  refine ow_box hS (tmA rfl rfl) rfl ?_
  clear hS; intro g0_0 w hg0_0 hS
  refine hK _ _ ?_; clear hK K
  refine wl_v (x_assign (ev_cN 0)) ?_
  refine wl_v (x_assign (ev_cN 0)) ?_
  refine wl_v (x_assign ev_c) ?_
  refine wl_nil ?_
  refine then_n (hK1 _ _ ?_); clear hK1 K1
  refine wp_seq_k ?_; intro K2 hK2
  refine wlit ?_
  refine wl_v (x_fa 8 Try.underlying49 rfl rfl ts_22 (tmP rfl rfl)) ?_
  refine wl_v (x_load Try.underlying22 rfl (tmP rfl rfl) (cellB hS.ok 0 rfl rfl)) ?_
  refine wl_e rfl ?_; intro K hK
  refine ow_call Try.func24 rfl rfl (evs_cons (tmS rfl rfl) <| evs_nil) (stamps_some_c m O c o q _ (viewV hS.ok 1 rfl) hl hb hn4 h) ?_
  rintro e w ⟨rfl, hk⟩
  refine ⟨_, rfl, ?_⟩
  replace hS := hS.kept hk
  clear hk
  refine hK _ _ ?_; clear hK K
  refine wl_v (x_move (tmT rfl rfl)) ?_
  refine wl_v (x_ext (tmT rfl rfl) rfl) ?_
  refine wl_v (x_ext (tmT rfl rfl) rfl) ?_
  refine wl_v (x_assign (tmI rfl rfl)) ?_
  refine wl_v (x_assign (tmB rfl rfl)) ?_
  refine wl_nil ?_
  refine then_n (hK2 _ _ ?_); clear hK2 K2
  refine wp_seq_k ?_; intro K3 hK3
  refine wp_seq_k ?_; intro K4 hK4
  refine wlit ?_
  refine wl_v (x_move (tmB rfl rfl)) ?_
  refine wl_v (x_not (tmB rfl rfl)) ?_
  refine wl_nil ?_
  refine then_n (hK4 _ _ ?_); clear hK4 K4
  refine cnd (tm rfl) (fun hc0 => ?_) (fun hc0 => ?_)
  · exfalso
    simp at hc0
  all_goals
   try simp only [nrm] at hc0
   refine wp_skip ?_
   refine then_n (hK3 _ _ ?_); clear hK3 K3
   refine wp_seq_k ?_; intro K5 hK5
   refine wlit ?_
   refine wl_v (x_fa 8 Try.underlying49 rfl rfl ts_22 (tmP rfl rfl)) ?_
   refine wl_v (x_load Try.underlying22 rfl (tmP rfl rfl) (cellB hS.ok 0 rfl rfl)) ?_
   refine wl_v (x_move (tmI rfl rfl)) ?_
   refine wl_v (x_sliceL Try.underlying22 ts_5 (tmS rfl rfl) (tmI rfl rfl) (by omega)) ?_
   replace hS := hS.dropb 1 q rfl (by omega : o.length ≤ c)
   refine wl_e rfl ?_; intro K hK
   refine ow_call Try.func14 rfl rfl (evs_cons (tmS rfl rfl) <| evs_nil) (read_c (m - q) _ (c - q) (o.drop q) _ (viewV hS.ok 0 rfl) hl2 (by omega)) ?_
   rintro e w ⟨gr, A0, rfl, hS2⟩
   refine ⟨_, rfl, ?_⟩
   replace hS := hS.adds hS2 rfl -- +gr,rowb
   clear hS2
   have hA : Off A0 0 (m - q) A0 := off_zero
   have hcp : m - q - 0 ≤ m - q := by omega
   refine hK _ _ ?_; clear hK K
   refine wl_v (x_assign (tmP rfl rfl)) ?_
   refine wl_nil ?_
   refine then_n (hK5 _ _ ?_); clear hK5 K5
   refine wp_seq_k ?_; intro K6 hK6
   refine wlit ?_
   refine wl_v (x_move (tmP rfl rfl)) ?_
   refine wl_e rfl ?_; intro K hK
   refine ow_call Try.func25 rfl rfl (evs_cons (tmP rfl rfl) <| evs_nil) (long_c gr A0 _ _ (m - q) _ (o.drop q) false _ _ (hS.enter [0] [1] rfl rfl) hA (by omega) hcp hl2 hb2) ?_
   rintro e w ⟨A1, c1, rfl, hS2, hA, hcp⟩
   refine ⟨_, rfl, ?_⟩
   replace hS := hS.turn 0 rfl rfl hS2 rfl
   clear hS2
   try replace hS := St.nm (M' := [_, .row _ _ _ _ _, .vw _ _, .blk _ _ [_, _, _, _, _, _, _, _, _, _], .vw _ _]) hS rfl
   refine hK _ _ ?_; clear hK K
   refine wl_v (x_move (tmP rfl rfl)) ?_
   refine wl_e rfl ?_; intro K hK
   refine ow_call Try.func25 rfl rfl (evs_cons (tmP rfl rfl) <| evs_nil) (long_c gr A0 _ _ (m - q) _ (o.drop q) false _ _ (hS.enter [0] [1] rfl rfl) hA (by omega) hcp hl2 hb2) ?_
   rintro e w ⟨A1, c1, rfl, hS2, hA, hcp⟩
   refine ⟨_, rfl, ?_⟩
   replace hS := hS.turn 0 rfl rfl hS2 rfl
   clear hS2
   try replace hS := St.nm (M' := [_, .row _ _ _ _ _, .vw _ _, .blk _ _ [_, _, _, _, _, _, _, _, _, _], .vw _ _]) hS rfl
   refine hK _ _ ?_; clear hK K
   refine wl_v (x_assign (tmI rfl rfl)) ?_
   refine wl_v (x_assign (tmI rfl rfl)) ?_
   refine wl_v (x_assign ev_c) ?_
   refine wl_nil ?_
   refine then_n (hK6 _ _ ?_); clear hK6 K6
   refine wp_ret ?_
   refine ret3 rfl (.tmp rfl (show _ = Value.int _ _ from rfl)) (.tmp rfl (show _ = Value.int _ _ from rfl)) (.tmp rfl (show _ = Value.bool _ from rfl)) ?_
   refine ⟨?_, hS.kp⟩
   rw [getN_drop0, getN_drop4]
namespace TcpStamps
end TcpStamps
end Go.Proofs.Ytcobjneobdihkaa
