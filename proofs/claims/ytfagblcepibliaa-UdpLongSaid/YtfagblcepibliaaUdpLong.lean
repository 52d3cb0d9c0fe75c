
/- Proved: UdpLong returns true for every input, and changes no memory that was there. Conditions: none. -/
import Derived.Test.YtfagblcepibliaaUdp
import Derived.Test.YtfagblcepibliaaArgs
import Derived.Test.YtfagblcepibliaaJF
namespace Go.Proofs.Ytfagblcepibliaa
open Go.RowKit
set_option maxRecDepth 100000 in
set_option maxHeartbeats 4000000 in
theorem udp_right_c (a1 a2 a3 : Nat) (L : Option Addr) (k d : Nat) (w0 : World) (hk0 : k ≤ 1000000) :
    Calls Try.prog 57 #[.agg (datV a1 a2 a3 L k d).toArray] w0 fun e w' => e = .returned (.bool (decide (k ≤ 65527))) ∧ Kp [] w0 w' := by
  have hS := St.sv w0
  refine ent (n := 8) Try.func57 rfl rfl ?_
  refine wp_seq_k ?_; intro K1 hK1
  refine wlit ?_
  refine wl_e rfl ?_; intro K hK
  refine ow_box hS (tmA rfl rfl) rfl ?_
  clear hS; intro g0_0 w hg0_0 hS
  refine hK _ _ ?_; clear hK K
  refine wl_v (x_assign ev_c) ?_
  refine wl_nil ?_
  refine then_n (hK1 _ _ ?_); clear hK1 K1
  refine wp_seq_k ?_; intro K2 hK2
  refine wlit ?_
  refine wl_v (x_fa 3 Try.underlying75 rfl rfl ts_22 (tmP rfl rfl)) ?_
  first
   | refine wl_v (x_load Try.underlying22 rfl (tmP rfl rfl) (cellB hS.ok 0 rfl rfl)) ?_
   | refine wl_v (x_load Try.underlying22 rfl (tmP rfl rfl) (cellB hS.ok 0 rfl (getm (by omega)))) ?_
  refine wl_v (x_len Try.underlying22 (tmS rfl rfl)) ?_
  first
   | refine wl_v (x_addN (ev_cN 8) (tmI rfl rfl) (fit_i64 (by omega))) ?_
   | refine wl_v (x_addI (ev_cN 8) (tmI rfl rfl) (IntWalk.i64_in _ (by omega))) ?_
   | refine wl_v (x_add (ev_cN 8) (tmI rfl rfl)) ?_
  refine wl_v (x_leq (tmI rfl rfl) (ev_cN 65535)) ?_
  refine wl_v (x_assign (tmB rfl rfl)) ?_
  refine wl_nil ?_
  refine then_n (hK2 _ _ ?_); clear hK2 K2
  refine wp_ret ?_
  refine ret1 rfl (.tmp rfl (show _ = Value.bool _ from rfl)) ?_
  refine ⟨ret_bool (decide_eq_decide.2 ?_), hS.kp⟩
  omega

def datB (a1 a2 a3 : Nat) (x : List Nat) : List Nat := [] ++ be a1 2 ++ be a2 2 ++ be (8 + x.length) 2 ++ be a3 2 ++ x
set_option maxRecDepth 100000 in
set_option maxHeartbeats 4000000 in
theorem udp_bytes_c (a1 a2 a3 : Nat) (L : Option Addr) (d : Nat) (x : List Nat) (w0 : World) (h1 : View w0 w0.heap.size L (x.map u8v)) (q1 : a1 < 65536) (q2 : a2 < 65536) (q3 : a3 < 65536) (hx : x.length ≤ 65527) :
    Calls Try.prog 58 #[.agg (datV a1 a2 a3 L x.length d).toArray] w0 fun e w' => ∃ A' n c', n = 8 + x.length ∧ e = .returned (.slice A' n c') ∧ New w0 w' (.row (.slice A' n c') 5 1 n ((datB a1 a2 a3 x).map u8v)) ∧ Kp [] w0 w' := by
  have hS := (St.sv w0).vcons rfl h1
  refine ent (n := 32) Try.func58 rfl rfl ?_
  refine wp_seq_k ?_; intro K1 hK1
  refine wlit ?_
  refine wl_e rfl ?_; intro K hK
  refine ow_box hS (tmA rfl rfl) rfl ?_
  clear hS; intro g0_0 w hg0_0 hS
  refine hK _ _ ?_; clear hK K
  refine wl_v (x_assign ev_c) ?_
  refine wl_nil ?_
  refine then_n (hK1 _ _ ?_); clear hK1 K1
  refine wp_seq_k ?_; intro K2 hK2
  refine wp_seq_k ?_; intro K3 hK3
  refine wlit ?_
  refine wl_v (x_loadA (cs := [_, _, _, _]) Try.underlying75 rfl ts_75 (tmP rfl rfl) (rangeB hS.ok 0 rfl rfl)) ?_
  refine wl_e rfl ?_; intro K hK
  refine ow_call Try.func57 rfl rfl (evs_cons (tmA rfl rfl) <| evs_nil) (udp_right_c _ _ _ _ _ _ _ (by omega)) ?_
  rintro e w ⟨rfl, hk⟩
  refine ⟨_, rfl, ?_⟩
  replace hS := hS.kept hk
  clear hk
  refine hK _ _ ?_; clear hK K
  refine wl_v (x_not (tmB rfl rfl)) ?_
  refine wl_nil ?_
  refine then_n (hK3 _ _ ?_); clear hK3 K3
  refine cnd (tm rfl) (fun hc0 => ?_) (fun hc0 => ?_)
  · exfalso
    simp at hc0
    omega
  try (exfalso; first | with_reducible exact absurd hc0 Bool.false_ne_true | with_reducible exact absurd hc0.symm Bool.false_ne_true | (simp only [nrm] at hc0; omega) | (simp at hc0; done))
  all_goals
   try simp only [nrm] at hc0
   refine wp_skip ?_
   refine then_n (hK2 _ _ ?_); clear hK2 K2
   refine wp_seq_k ?_; intro K4 hK4
   refine wlit ?_
   refine wl_v (x_fa 0 Try.underlying75 rfl rfl ts_24 (tmP rfl rfl)) ?_
   first
    | refine wl_v (x_load Try.underlying24 rfl (tmP rfl rfl) (cellB hS.ok 0 rfl rfl)) ?_
    | refine wl_v (x_load Try.underlying24 rfl (tmP rfl rfl) (cellB hS.ok 0 rfl (getm (by omega)))) ?_
   first
    | refine wl_v (x_convN Try.underlying24 Try.underlying25 (tmI rfl rfl) (fit_u64 (by omega))) ?_
    | refine wl_v (x_convU Try.underlying24 Try.underlying25 (tmI rfl rfl) rfl) ?_
    | refine wl_v (x_conv Try.underlying24 Try.underlying25 (tmI rfl rfl)) ?_
   refine wl_e rfl ?_; intro K hK
   refine ow_call Try.func109 rfl rfl (evs_cons ev_c <| evs_cons (tmI rfl rfl) <| evs_cons (ev_cN 2) <| evs_nil) (put_c 0 none 0 [] a1 2 _ View.nil_ rfl (by omega) (by omega) (by omega)) ?_
   rintro e w ⟨g1, rfl, hn, hk⟩
   refine ⟨_, rfl, ?_⟩
   replace hS := hS.add hk hn -- +rowb
   clear hn hk
   refine hK _ _ ?_; clear hK K
   refine wl_v (x_assign (tmS rfl rfl)) ?_
   refine wl_nil ?_
   refine then_n (hK4 _ _ ?_); clear hK4 K4
   refine wp_seq_k ?_; intro K5 hK5
   refine wlit ?_
   refine wl_v (x_move (tmS rfl rfl)) ?_
   refine wl_v (x_fa 1 Try.underlying75 rfl rfl ts_24 (tmP rfl rfl)) ?_
   first
    | refine wl_v (x_load Try.underlying24 rfl (tmP rfl rfl) (cellB hS.ok 1 rfl rfl)) ?_
    | refine wl_v (x_load Try.underlying24 rfl (tmP rfl rfl) (cellB hS.ok 1 rfl (getm (by omega)))) ?_
   first
    | refine wl_v (x_convN Try.underlying24 Try.underlying25 (tmI rfl rfl) (fit_u64 (by omega))) ?_
    | refine wl_v (x_convU Try.underlying24 Try.underlying25 (tmI rfl rfl) rfl) ?_
    | refine wl_v (x_conv Try.underlying24 Try.underlying25 (tmI rfl rfl)) ?_
   refine wl_e rfl ?_; intro K hK
   refine ow_call Try.func109 rfl rfl (evs_cons (tmS rfl rfl) <| evs_cons (tmI rfl rfl) <| evs_cons (ev_cN 2) <| evs_nil) (put_c _ _ _ _ _ _ _ (viewR hS.ok 0 rfl) (by simp [be_length]) (by omega) (by omega) (by omega)) ?_
   rintro e w ⟨g2, rfl, hn, hk⟩
   refine ⟨_, rfl, ?_⟩
   replace hS := (hS.add hk hn).pick [0, 2, 3] rfl rfl --ents rowb,g0_0,vx
   clear hn hk
   try replace hS := St.nm (M' := [.row _ _ _ _ _, .blk _ _ [_, _, _, _], .vw _ _]) hS rfl
   refine hK _ _ ?_; clear hK K
   refine wl_v (x_assign (tmS rfl rfl)) ?_
   refine wl_nil ?_
   refine then_n (hK5 _ _ ?_); clear hK5 K5
   refine wp_seq_k ?_; intro K6 hK6
   refine wlit ?_
   refine wl_v (x_move (tmS rfl rfl)) ?_
   refine wl_v (x_fa 3 Try.underlying75 rfl rfl ts_22 (tmP rfl rfl)) ?_
   first
    | refine wl_v (x_load Try.underlying22 rfl (tmP rfl rfl) (cellB hS.ok 1 rfl rfl)) ?_
    | refine wl_v (x_load Try.underlying22 rfl (tmP rfl rfl) (cellB hS.ok 1 rfl (getm (by omega)))) ?_
   refine wl_v (x_len Try.underlying22 (tmS rfl rfl)) ?_
   first
    | refine wl_v (x_addN (ev_cN 8) (tmI rfl rfl) (fit_i64 (by omega))) ?_
    | refine wl_v (x_addI (ev_cN 8) (tmI rfl rfl) (IntWalk.i64_in _ (by omega))) ?_
    | refine wl_v (x_add (ev_cN 8) (tmI rfl rfl)) ?_
   first
    | refine wl_v (x_convN Try.underlying3 Try.underlying25 (tmI rfl rfl) (fit_u64 (by omega))) ?_
    | refine wl_v (x_convU Try.underlying3 Try.underlying25 (tmI rfl rfl) rfl) ?_
    | refine wl_v (x_conv Try.underlying3 Try.underlying25 (tmI rfl rfl)) ?_
   refine wl_e rfl ?_; intro K hK
   refine ow_call Try.func109 rfl rfl (evs_cons (tmS rfl rfl) <| evs_cons (tmI rfl rfl) <| evs_cons (ev_cN 2) <| evs_nil) (put_c _ _ _ _ _ _ _ (viewR hS.ok 0 rfl) (by simp [be_length]) (by omega) (by omega) (by omega)) ?_
   rintro e w ⟨g2, rfl, hn, hk⟩
   refine ⟨_, rfl, ?_⟩
   replace hS := (hS.add hk hn).pick [0, 2, 3] rfl rfl --ents rowb,g0_0,vx
   clear hn hk
   try replace hS := St.nm (M' := [.row _ _ _ _ _, .blk _ _ [_, _, _, _], .vw _ _]) hS rfl
   refine hK _ _ ?_; clear hK K
   refine wl_v (x_assign (tmS rfl rfl)) ?_
   refine wl_nil ?_
   refine then_n (hK6 _ _ ?_); clear hK6 K6
   refine wp_seq_k ?_; intro K7 hK7
   refine wlit ?_
   refine wl_v (x_move (tmS rfl rfl)) ?_
   refine wl_v (x_fa 2 Try.underlying75 rfl rfl ts_24 (tmP rfl rfl)) ?_
   first
    | refine wl_v (x_load Try.underlying24 rfl (tmP rfl rfl) (cellB hS.ok 1 rfl rfl)) ?_
    | refine wl_v (x_load Try.underlying24 rfl (tmP rfl rfl) (cellB hS.ok 1 rfl (getm (by omega)))) ?_
   first
    | refine wl_v (x_convN Try.underlying24 Try.underlying25 (tmI rfl rfl) (fit_u64 (by omega))) ?_
    | refine wl_v (x_convU Try.underlying24 Try.underlying25 (tmI rfl rfl) rfl) ?_
    | refine wl_v (x_conv Try.underlying24 Try.underlying25 (tmI rfl rfl)) ?_
   refine wl_e rfl ?_; intro K hK
   refine ow_call Try.func109 rfl rfl (evs_cons (tmS rfl rfl) <| evs_cons (tmI rfl rfl) <| evs_cons (ev_cN 2) <| evs_nil) (put_c _ _ _ _ _ _ _ (viewR hS.ok 0 rfl) (by simp [be_length]) (by omega) (by omega) (by omega)) ?_
   rintro e w ⟨g2, rfl, hn, hk⟩
   refine ⟨_, rfl, ?_⟩
   replace hS := (hS.add hk hn).pick [0, 2, 3] rfl rfl --ents rowb,g0_0,vx
   clear hn hk
   try replace hS := St.nm (M' := [.row _ _ _ _ _, .blk _ _ [_, _, _, _], .vw _ _]) hS rfl
   refine hK _ _ ?_; clear hK K
   refine wl_v (x_assign (tmS rfl rfl)) ?_
   refine wl_nil ?_
   refine then_n (hK7 _ _ ?_); clear hK7 K7
   refine wp_seq_k ?_; intro K8 hK8
   refine wlit ?_
   refine wl_v (x_move (tmS rfl rfl)) ?_
   refine wl_v (x_fa 3 Try.underlying75 rfl rfl ts_22 (tmP rfl rfl)) ?_
   first
    | refine wl_v (x_load Try.underlying22 rfl (tmP rfl rfl) (cellB hS.ok 1 rfl rfl)) ?_
    | refine wl_v (x_load Try.underlying22 rfl (tmP rfl rfl) (cellB hS.ok 1 rfl (getm (by omega)))) ?_
   refine wl_e rfl ?_; intro K hK
   first
    | (refine ow_append hS 0 1 rfl rfl Try.underlying22 tz_5 rfl (tmS rfl rfl) (tmS rfl rfl) rfl ⟨by decide, by decide, rfl⟩ (by simp only [maxLen]; omega) (by omega) ?_; clear hS; intro g7_3 cg7_3 w hS)
    | (refine ow_append hS 0 2 rfl rfl Try.underlying22 tz_5 rfl (tmS rfl rfl) (tmS rfl rfl) rfl ⟨by decide, by decide, rfl⟩ (by simp only [maxLen]; omega) (by omega) ?_; clear hS; intro g7_3 cg7_3 w hS)
    | (refine ow_appendV hS 0 rfl (viewR hS.ok 0 rfl) Try.underlying22 tz_5 rfl (tmS rfl rfl) (tmS rfl rfl) (by first | exact u8v_one _ | (intro u hu; simp at hu; first | (rcases hu with rfl | rfl <;> rfl) | (obtain ⟨_, _, rfl⟩ := hu; rfl))) ⟨by decide, by first | rfl | (simp; done) | (simp; omega)⟩ (by simp only [maxLen]; omega) (by omega) ?_; clear hS; intro g7_3 cg7_3 w hAg7_3 hCg7_3 hS)
    | (refine ow_appendV hS 0 rfl (viewV hS.ok 2 rfl) Try.underlying22 tz_5 rfl (tmS rfl rfl) (tmS rfl rfl) (by first | exact u8v_one _ | (intro u hu; simp at hu; first | (rcases hu with rfl | rfl <;> rfl) | (obtain ⟨_, _, rfl⟩ := hu; rfl))) ⟨by decide, by first | rfl | (simp; done) | (simp; omega)⟩ (by simp only [maxLen]; omega) (by omega) ?_; clear hS; intro g7_3 cg7_3 w hAg7_3 hCg7_3 hS)
    | (refine ow_appendV hS 0 rfl View.nil_ Try.underlying22 tz_5 rfl (tmS rfl rfl) (tmS rfl rfl) (by first | exact u8v_one _ | (intro u hu; simp at hu; first | (rcases hu with rfl | rfl <;> rfl) | (obtain ⟨_, _, rfl⟩ := hu; rfl))) ⟨by decide, by first | rfl | (simp; done) | (simp; omega)⟩ (by simp only [maxLen]; omega) (by omega) ?_; clear hS; intro g7_3 cg7_3 w hAg7_3 hCg7_3 hS)
   refine hK _ _ ?_; clear hK K
   refine wl_v (x_assign (tmS rfl rfl)) ?_
   refine wl_nil ?_
   rw [← List.map_append] at hS
   refine then_n (hK8 _ _ ?_); clear hK8 K8
   refine wp_ret ?_
   refine ret1 rfl (.tmp rfl (show _ = Value.slice _ _ _ from rfl)) ?_
   exact ⟨_, _, _, by omega, rfl, hS.new 0 rfl rfl, hS.kp⟩

set_option maxRecDepth 100000 in
set_option maxHeartbeats 4000000 in
theorem udp_nobytes_c (a1 a2 a3 : Nat) (L : Option Addr) (k d : Nat) (w0 : World) (hk0 : k ≤ 1000000) (hx : 65527 < k) :
    Calls Try.prog 58 #[.agg (datV a1 a2 a3 L k d).toArray] w0 fun e w' => e = .returned (.slice none 0 0) ∧ Kp [] w0 w' := by
  have hS := St.sv w0
  refine ent (n := 32) Try.func58 rfl rfl ?_
  refine wp_seq_k ?_; intro K1 hK1
  refine wlit ?_
  refine wl_e rfl ?_; intro K hK
  refine ow_box hS (tmA rfl rfl) rfl ?_
  clear hS; intro g0_0 w hg0_0 hS
  refine hK _ _ ?_; clear hK K
  refine wl_v (x_assign ev_c) ?_
  refine wl_nil ?_
  refine then_n (hK1 _ _ ?_); clear hK1 K1
  refine wp_seq_k ?_; intro K2 hK2
  refine wp_seq_k ?_; intro K3 hK3
  refine wlit ?_
  refine wl_v (x_loadA (cs := [_, _, _, _]) Try.underlying75 rfl ts_75 (tmP rfl rfl) (rangeB hS.ok 0 rfl rfl)) ?_
  refine wl_e rfl ?_; intro K hK
  refine ow_call Try.func57 rfl rfl (evs_cons (tmA rfl rfl) <| evs_nil) (udp_right_c _ _ _ _ k _ _ hk0) ?_
  rintro e w ⟨rfl, hk⟩
  refine ⟨_, rfl, ?_⟩
  replace hS := hS.kept hk
  clear hk
  refine hK _ _ ?_; clear hK K
  refine wl_v (x_not (tmB rfl rfl)) ?_
  refine wl_nil ?_
  refine then_n (hK3 _ _ ?_); clear hK3 K3
  refine cnds (tm rfl) (fun hc0 => ?_) (fun hc0 => ?_)
  · exfalso
    simp at hc0
    omega
  try (exfalso; first | with_reducible exact absurd hc0 Bool.false_ne_true | with_reducible exact absurd hc0.symm Bool.false_ne_true | (simp only [nrm] at hc0; omega) | (simp at hc0; done))
  all_goals
   try simp only [nrm] at hc0
   refine wp_seq_k ?_; intro K4 hK4
   refine wlit ?_
   refine wl_v (x_assign ev_c) ?_
   refine wl_nil ?_
   refine then_n (hK4 _ _ ?_); clear hK4 K4
   refine wp_ret ?_
   refine then_r ?_
   refine ret1 rfl (.tmp rfl (show _ = Value.slice _ _ _ from rfl)) ?_
   exact ⟨rfl, hS.kp⟩

set_option maxRecDepth 100000 in
set_option maxHeartbeats 4000000 in
theorem udp_nofine_c (a1 a2 a3 : Nat) (L : Option Addr) (k d : Nat) (s1 t1 : Bool) (s2 s3 t2 t3 : Int) (w0 : World) (hk0 : k ≤ 1000000) (hx : 65527 < k) :
    Calls Try.prog 59 #[.agg (datV a1 a2 a3 L k d).toArray, .agg #[.bool s1, .int .u64 s2, .int .u64 s3], .agg #[.bool t1, .int .u64 t2, .int .u64 t3]] w0 fun e w' => e = .returned (.bool false) ∧ Kp [] w0 w' := by
  have hS := St.sv w0
  refine ent (n := 27) Try.func59 rfl rfl ?_
  refine wp_seq_k ?_; intro K1 hK1
  refine wlit ?_
  refine wl_e rfl ?_; intro K hK
  refine ow_box hS (tmA rfl rfl) rfl ?_
  clear hS; intro g0_0 w hg0_0 hS
  refine hK _ _ ?_; clear hK K
  refine wl_e rfl ?_; intro K hK
  refine ow_box hS (tmA rfl rfl) rfl ?_
  clear hS; intro g0_1 w hg0_1 hS
  refine hK _ _ ?_; clear hK K
  refine wl_e rfl ?_; intro K hK
  refine ow_box hS (tmA rfl rfl) rfl ?_
  clear hS; intro g0_2 w hg0_2 hS
  refine hK _ _ ?_; clear hK K
  refine wl_v (x_assign ev_c) ?_
  refine wl_nil ?_
  refine then_n (hK1 _ _ ?_); clear hK1 K1
  refine wp_seq_k ?_; intro K2 hK2
  refine wp_seq_k ?_; intro K3 hK3
  refine wlit ?_
  refine wl_v (x_loadA (cs := [_, _, _, _]) Try.underlying75 rfl ts_75 (tmP rfl rfl) (rangeB hS.ok 2 rfl rfl)) ?_
  refine wl_e rfl ?_; intro K hK
  refine ow_call Try.func57 rfl rfl (evs_cons (tmA rfl rfl) <| evs_nil) (udp_right_c _ _ _ _ k _ _ hk0) ?_
  rintro e w ⟨rfl, hk⟩
  refine ⟨_, rfl, ?_⟩
  replace hS := hS.kept hk
  clear hk
  refine hK _ _ ?_; clear hK K
  refine wl_v (x_not (tmB rfl rfl)) ?_
  refine wl_nil ?_
  refine then_n (hK3 _ _ ?_); clear hK3 K3
  refine cnds (tm rfl) (fun hc0 => ?_) (fun hc0 => ?_)
  · exfalso
    simp at hc0
    omega
  try (exfalso; first | with_reducible exact absurd hc0 Bool.false_ne_true | with_reducible exact absurd hc0.symm Bool.false_ne_true | (simp only [nrm] at hc0; omega) | (simp at hc0; done))
  all_goals
   try simp only [nrm] at hc0
   refine wp_seq_k ?_; intro K4 hK4
   refine wlit ?_
   refine wl_v (x_assign ev_c) ?_
   refine wl_nil ?_
   refine then_n (hK4 _ _ ?_); clear hK4 K4
   refine wp_ret ?_
   refine then_r ?_
   refine ret1 rfl (.tmp rfl (show _ = Value.bool _ from rfl)) ?_
   exact ⟨rfl, hS.kp⟩

namespace UdpLong
set_option maxRecDepth 100000 in
set_option maxHeartbeats 8000000 in
theorem walk (more : Int) (w0 : World) (hm : 0 ≤ more ∧ more < 256) :
    Calls Try.prog 10 #[.int .u8 more] w0 fun e w' => e = .returned (.bool true) ∧ Below w0.heap.size w0 w' := by
  obtain ⟨more, rfl⟩ := Int.eq_ofNat_of_zero_le hm.1
  have hS := St.sv w0
  obtain ⟨p, hp⟩ : ∃ p, p = 65527 := ⟨_, rfl⟩
  obtain ⟨q, hq⟩ : ∃ q, 65528 + more = q := ⟨_, rfl⟩
  have hrep : ∀ k, (List.replicate k (0 : Nat)).length = k := fun k => List.length_replicate
  have hmap : ∀ k, (List.replicate k (Value.int .u8 0)) = (List.replicate k (0 : Nat)).map u8v := fun k => by simp [u8v]
  have hby := fun L d w (h1 : View w w.heap.size L ((List.replicate p (0 : Nat)).map u8v)) => udp_bytes_c 0 0 0 L d (List.replicate p 0) w h1 (by omega) (by omega) (by omega) (by rw [hrep]; omega)
  simp only [hrep] at hby
  have hpi : Value.int .i64 65527 = Value.int .i64 (p : Int) := by rw [hp]; rfl
  refine ent (n := 41) Try.func10 rfl rfl ?_
  refine wp_seq_k ?_; intro K1 hK1
  refine wlit ?_
  refine wl_v (x_assign ev_c) ?_
  refine wl_nil ?_
  refine then_n (hK1 _ _ ?_); clear hK1 K1
  refine wp_seq_k ?_; intro K2 hK2
  refine cutc [3, 4, 5, 6, 7, 8, 9, 10, 11] (fun g w => ∃ (ba bb : Nat), ∃ (La Lb : Option Addr), g 3 = .pointer (some ⟨ba, 0, none⟩) ∧ g 4 = .pointer (some ⟨bb, 0, none⟩) ∧ St [] w0 [.blk ba 75 (datV 0 0 0 La p p), .blk bb 75 (datV 0 0 0 Lb q q), .vw La (List.replicate p (Value.int .u8 0))] w) ?_ ?_
  · skip
    refine rg_startk 0 hS mixed_ ?_
    clear hS; intro w hS
    refine rg_take 2 rfl rfl (by kernel_rfl) (by kernel_rfl) (by kernel_rfl) (want_0) (fun w hok => x_move (tmI rfl rfl)) ?_
    first
     | refine rg_take 3 rfl rfl (by kernel_rfl) (by kernel_rfl) (by kernel_rfl) (want_0) (fun w hok => x_convN Try.underlying5 Try.underlying3 (tmI rfl rfl) (fit_i64 (by omega))) ?_
     | refine rg_take 3 rfl rfl (by kernel_rfl) (by kernel_rfl) (by kernel_rfl) (want_0) (fun w hok => x_conv Try.underlying5 Try.underlying3 (tmI rfl rfl)) ?_
    first
     | refine rg_take 4 rfl rfl (by kernel_rfl) (by kernel_rfl) (by kernel_rfl) (want_0) (fun w hok => x_addN (ev_cN 65528) (tmI rfl rfl) (fit_i64 (by omega))) ?_
     | refine rg_take 4 rfl rfl (by kernel_rfl) (by kernel_rfl) (by kernel_rfl) (want_0) (fun w hok => x_addI (ev_cN 65528) (tmI rfl rfl) (IntWalk.i64_in _ (by omega))) ?_
     | refine rg_take 4 rfl rfl (by kernel_rfl) (by kernel_rfl) (by kernel_rfl) (want_0) (fun w hok => x_add (ev_cN 65528) (tmI rfl rfl)) ?_
    refine rg_step4 0 5 7 8 rfl rfl rfl rfl (by kernel_rfl) (want_0) (want_0) (want_0) (want_0) (oks_drop hS 0 rfl) ?_ ?_ ?_ ?_
    · intro K hK
      refine ow_make hS Try.underlying22 tz_5 rfl (ev_cN 65527) (ev_cN 65527) rfl (by omega) (by simp only [maxLen]; omega) ?_
      clear hS; intro g1_0 w hg1_0 hS
      refine hK _ _ ?_; clear hK K
      refine rg_take 1 rfl rfl (by kernel_rfl) (by kernel_rfl) (by kernel_rfl) (want_0) (fun w hok => x_build (bc_skip (.int .u16 0) <| bc_skip (.int .u16 0) <| bc_skip (.int .u16 0) <| bc_take (tmS rfl rfl) <| bc_nil) (by kernel_rfl)) ?_
      refine rg_step3 5 7 8 rfl rfl rfl (by kernel_rfl) (want_0) (want_0) (want_0) (oks_drop hS 1 rfl) ?_ ?_ ?_
      · intro K hK
        refine ow_make hS Try.underlying22 tz_5 rfl (tmI rfl rfl) (tmI rfl rfl) rfl (by omega) (by simp only [maxLen]; omega) ?_
        clear hS; intro g1_5 w hg1_5 hS
        refine hK _ _ ?_; clear hK K
        refine rg_take 6 rfl rfl (by kernel_rfl) (by kernel_rfl) (by kernel_rfl) (want_0) (fun w hok => x_build (bc_skip (.int .u16 0) <| bc_skip (.int .u16 0) <| bc_skip (.int .u16 0) <| bc_take (tmS rfl rfl) <| bc_nil) (by kernel_rfl)) ?_
        refine rg_step2 7 8 rfl rfl (by kernel_rfl) (want_0) (want_0) (oks_drop hS 2 rfl) ?_ ?_
        · intro K hK
          refine ow_alloc hS tz_75 rfl ?_
          clear hS; intro g1_7 w hg1_7 hS
          refine hK _ _ ?_; clear hK K
          refine rg_step 8 rfl (by kernel_rfl) (want_0) (oks_drop hS 3 rfl) ?_; intro K hK
          refine ow_alloc hS tz_75 rfl ?_
          clear hS; intro g1_8 w hg1_8 hS
          refine hK _ _ ?_; clear hK K
          refine rg_step 9 rfl (by kernel_rfl) (want_0) (oks_drop hS 4 rfl) ?_; intro K hK
          refine ow_storeA hS 1 rfl ts_75 (tmP rfl rfl) (tmA rfl rfl) rfl rfl rfl ?_
          clear hS; intro w hS
          try replace hS := St.nm (M' := [.blk _ _ [_, _, _, _], .blk _ _ [_, _, _, _], .row _ _ _ _ _, .row _ _ _ _ _, _]) hS rfl
          refine hK _ _ ?_; clear hK K
          refine rg_step 10 rfl (by kernel_rfl) (want_0) (oks_drop hS 4 rfl) ?_; intro K hK
          refine ow_storeA hS 0 rfl ts_75 (tmP rfl rfl) (tmA rfl rfl) rfl rfl rfl ?_
          clear hS; intro w hS
          try replace hS := St.nm (M' := [.blk _ _ [_, _, _, _], .blk _ _ [_, _, _, _], .row _ _ _ _ _, .row _ _ _ _ _, _]) hS rfl
          refine hK _ _ ?_; clear hK K
          refine rg_done (oks_drop hS 4 rfl) (by kernel_rfl) ?_
          exact then_n ⟨_, rfl, (by repeat (first | exact agree_self | exact agree_refl | refine agree_upd rfl ?_ | refine agree_mix rfl ?_)), g1_7, g1_8, (some ⟨g1_0, 0, none⟩), (some ⟨g1_5, 0, none⟩), (by first | rfl | go_num | exact congrArg (Value.int _) (by first | omega | (simp; done) | (simp; omega))), (by first | rfl | go_num | exact congrArg (Value.int _) (by first | omega | (simp; done) | (simp; omega))), (by subst hp; subst hq; exact ((hS.pick [1, 0, 3] rfl rfl).freeze 2 rfl))⟩
        · intro K hK
          refine ow_alloc hS tz_75 rfl ?_
          clear hS; intro g1_8 w hg1_8 hS
          refine hK _ _ ?_; clear hK K
          refine rg_step 7 rfl (by kernel_rfl) (want_0) (oks_drop hS 3 rfl) ?_; intro K hK
          refine ow_alloc hS tz_75 rfl ?_
          clear hS; intro g1_7 w hg1_7 hS
          refine hK _ _ ?_; clear hK K
          refine rg_step 9 rfl (by kernel_rfl) (want_0) (oks_drop hS 4 rfl) ?_; intro K hK
          refine ow_storeA hS 0 rfl ts_75 (tmP rfl rfl) (tmA rfl rfl) rfl rfl rfl ?_
          clear hS; intro w hS
          try replace hS := St.nm (M' := [.blk _ _ [_, _, _, _], .blk _ _ [_, _, _, _], .row _ _ _ _ _, .row _ _ _ _ _, _]) hS rfl
          refine hK _ _ ?_; clear hK K
          refine rg_step 10 rfl (by kernel_rfl) (want_0) (oks_drop hS 4 rfl) ?_; intro K hK
          refine ow_storeA hS 1 rfl ts_75 (tmP rfl rfl) (tmA rfl rfl) rfl rfl rfl ?_
          clear hS; intro w hS
          try replace hS := St.nm (M' := [.blk _ _ [_, _, _, _], .blk _ _ [_, _, _, _], .row _ _ _ _ _, .row _ _ _ _ _, _]) hS rfl
          refine hK _ _ ?_; clear hK K
          refine rg_done (oks_drop hS 4 rfl) (by kernel_rfl) ?_
          exact then_n ⟨_, rfl, (by repeat (first | exact agree_self | exact agree_refl | refine agree_upd rfl ?_ | refine agree_mix rfl ?_)), g1_7, g1_8, (some ⟨g1_0, 0, none⟩), (some ⟨g1_5, 0, none⟩), (by first | rfl | go_num | exact congrArg (Value.int _) (by first | omega | (simp; done) | (simp; omega))), (by first | rfl | go_num | exact congrArg (Value.int _) (by first | omega | (simp; done) | (simp; omega))), (by subst hp; subst hq; exact ((hS.pick [0, 1, 3] rfl rfl).freeze 2 rfl))⟩
      · intro K hK
        refine ow_alloc hS tz_75 rfl ?_
        clear hS; intro g1_7 w hg1_7 hS
        refine hK _ _ ?_; clear hK K
        refine rg_step2 5 8 rfl rfl (by kernel_rfl) (want_0) (want_0) (oks_drop hS 2 rfl) ?_ ?_
        · intro K hK
          refine ow_make hS Try.underlying22 tz_5 rfl (tmI rfl rfl) (tmI rfl rfl) rfl (by omega) (by simp only [maxLen]; omega) ?_
          clear hS; intro g1_5 w hg1_5 hS
          refine hK _ _ ?_; clear hK K
          refine rg_take 6 rfl rfl (by kernel_rfl) (by kernel_rfl) (by kernel_rfl) (want_0) (fun w hok => x_build (bc_skip (.int .u16 0) <| bc_skip (.int .u16 0) <| bc_skip (.int .u16 0) <| bc_take (tmS rfl rfl) <| bc_nil) (by kernel_rfl)) ?_
          refine rg_step 8 rfl (by kernel_rfl) (want_0) (oks_drop hS 3 rfl) ?_; intro K hK
          refine ow_alloc hS tz_75 rfl ?_
          clear hS; intro g1_8 w hg1_8 hS
          refine hK _ _ ?_; clear hK K
          refine rg_step 9 rfl (by kernel_rfl) (want_0) (oks_drop hS 4 rfl) ?_; intro K hK
          refine ow_storeA hS 2 rfl ts_75 (tmP rfl rfl) (tmA rfl rfl) rfl rfl rfl ?_
          clear hS; intro w hS
          try replace hS := St.nm (M' := [.blk _ _ [_, _, _, _], .row _ _ _ _ _, .blk _ _ [_, _, _, _], .row _ _ _ _ _, _]) hS rfl
          refine hK _ _ ?_; clear hK K
          refine rg_step 10 rfl (by kernel_rfl) (want_0) (oks_drop hS 4 rfl) ?_; intro K hK
          refine ow_storeA hS 0 rfl ts_75 (tmP rfl rfl) (tmA rfl rfl) rfl rfl rfl ?_
          clear hS; intro w hS
          try replace hS := St.nm (M' := [.blk _ _ [_, _, _, _], .row _ _ _ _ _, .blk _ _ [_, _, _, _], .row _ _ _ _ _, _]) hS rfl
          refine hK _ _ ?_; clear hK K
          refine rg_done (oks_drop hS 4 rfl) (by kernel_rfl) ?_
          exact then_n ⟨_, rfl, (by repeat (first | exact agree_self | exact agree_refl | refine agree_upd rfl ?_ | refine agree_mix rfl ?_)), g1_7, g1_8, (some ⟨g1_0, 0, none⟩), (some ⟨g1_5, 0, none⟩), (by first | rfl | go_num | exact congrArg (Value.int _) (by first | omega | (simp; done) | (simp; omega))), (by first | rfl | go_num | exact congrArg (Value.int _) (by first | omega | (simp; done) | (simp; omega))), (by subst hp; subst hq; exact ((hS.pick [2, 0, 3] rfl rfl).freeze 2 rfl))⟩
        · intro K hK
          refine ow_alloc hS tz_75 rfl ?_
          clear hS; intro g1_8 w hg1_8 hS
          refine hK _ _ ?_; clear hK K
          refine rg_step2 5 9 rfl rfl (by kernel_rfl) (want_0) (want_0) (oks_drop hS 3 rfl) ?_ ?_
          · intro K hK
            refine ow_make hS Try.underlying22 tz_5 rfl (tmI rfl rfl) (tmI rfl rfl) rfl (by omega) (by simp only [maxLen]; omega) ?_
            clear hS; intro g1_5 w hg1_5 hS
            refine hK _ _ ?_; clear hK K
            refine rg_take 6 rfl rfl (by kernel_rfl) (by kernel_rfl) (by kernel_rfl) (want_0) (fun w hok => x_build (bc_skip (.int .u16 0) <| bc_skip (.int .u16 0) <| bc_skip (.int .u16 0) <| bc_take (tmS rfl rfl) <| bc_nil) (by kernel_rfl)) ?_
            refine rg_step 9 rfl (by kernel_rfl) (want_0) (oks_drop hS 4 rfl) ?_; intro K hK
            refine ow_storeA hS 2 rfl ts_75 (tmP rfl rfl) (tmA rfl rfl) rfl rfl rfl ?_
            clear hS; intro w hS
            try replace hS := St.nm (M' := [.row _ _ _ _ _, .blk _ _ [_, _, _, _], .blk _ _ [_, _, _, _], .row _ _ _ _ _, _]) hS rfl
            refine hK _ _ ?_; clear hK K
            refine rg_step 10 rfl (by kernel_rfl) (want_0) (oks_drop hS 4 rfl) ?_; intro K hK
            refine ow_storeA hS 1 rfl ts_75 (tmP rfl rfl) (tmA rfl rfl) rfl rfl rfl ?_
            clear hS; intro w hS
            try replace hS := St.nm (M' := [.row _ _ _ _ _, .blk _ _ [_, _, _, _], .blk _ _ [_, _, _, _], .row _ _ _ _ _, _]) hS rfl
            refine hK _ _ ?_; clear hK K
            refine rg_done (oks_drop hS 4 rfl) (by kernel_rfl) ?_
            exact then_n ⟨_, rfl, (by repeat (first | exact agree_self | exact agree_refl | refine agree_upd rfl ?_ | refine agree_mix rfl ?_)), g1_7, g1_8, (some ⟨g1_0, 0, none⟩), (some ⟨g1_5, 0, none⟩), (by first | rfl | go_num | exact congrArg (Value.int _) (by first | omega | (simp; done) | (simp; omega))), (by first | rfl | go_num | exact congrArg (Value.int _) (by first | omega | (simp; done) | (simp; omega))), (by subst hp; subst hq; exact ((hS.pick [2, 1, 3] rfl rfl).freeze 2 rfl))⟩
          · intro K hK
            refine ow_storeA hS 1 rfl ts_75 (tmP rfl rfl) (tmA rfl rfl) rfl rfl rfl ?_
            clear hS; intro w hS
            try replace hS := St.nm (M' := [.blk _ _ [_, _, _, _], .blk _ _ [_, _, _, _], .row _ _ _ _ _, _]) hS rfl
            refine hK _ _ ?_; clear hK K
            refine rg_step 5 rfl (by kernel_rfl) (want_0) (oks_drop hS 3 rfl) ?_; intro K hK
            refine ow_make hS Try.underlying22 tz_5 rfl (tmI rfl rfl) (tmI rfl rfl) rfl (by omega) (by simp only [maxLen]; omega) ?_
            clear hS; intro g1_5 w hg1_5 hS
            refine hK _ _ ?_; clear hK K
            refine rg_take 6 rfl rfl (by kernel_rfl) (by kernel_rfl) (by kernel_rfl) (want_0) (fun w hok => x_build (bc_skip (.int .u16 0) <| bc_skip (.int .u16 0) <| bc_skip (.int .u16 0) <| bc_take (tmS rfl rfl) <| bc_nil) (by kernel_rfl)) ?_
            refine rg_step 10 rfl (by kernel_rfl) (want_0) (oks_drop hS 4 rfl) ?_; intro K hK
            refine ow_storeA hS 1 rfl ts_75 (tmP rfl rfl) (tmA rfl rfl) rfl rfl rfl ?_
            clear hS; intro w hS
            try replace hS := St.nm (M' := [.row _ _ _ _ _, .blk _ _ [_, _, _, _], .blk _ _ [_, _, _, _], .row _ _ _ _ _, _]) hS rfl
            refine hK _ _ ?_; clear hK K
            refine rg_done (oks_drop hS 4 rfl) (by kernel_rfl) ?_
            exact then_n ⟨_, rfl, (by repeat (first | exact agree_self | exact agree_refl | refine agree_upd rfl ?_ | refine agree_mix rfl ?_)), g1_7, g1_8, (some ⟨g1_0, 0, none⟩), (some ⟨g1_5, 0, none⟩), (by first | rfl | go_num | exact congrArg (Value.int _) (by first | omega | (simp; done) | (simp; omega))), (by first | rfl | go_num | exact congrArg (Value.int _) (by first | omega | (simp; done) | (simp; omega))), (by subst hp; subst hq; exact ((hS.pick [2, 1, 3] rfl rfl).freeze 2 rfl))⟩
      · intro K hK
        refine ow_alloc hS tz_75 rfl ?_
        clear hS; intro g1_8 w hg1_8 hS
        refine hK _ _ ?_; clear hK K
        refine rg_step2 5 7 rfl rfl (by kernel_rfl) (want_0) (want_0) (oks_drop hS 2 rfl) ?_ ?_
        · intro K hK
          refine ow_make hS Try.underlying22 tz_5 rfl (tmI rfl rfl) (tmI rfl rfl) rfl (by omega) (by simp only [maxLen]; omega) ?_
          clear hS; intro g1_5 w hg1_5 hS
          refine hK _ _ ?_; clear hK K
          refine rg_take 6 rfl rfl (by kernel_rfl) (by kernel_rfl) (by kernel_rfl) (want_0) (fun w hok => x_build (bc_skip (.int .u16 0) <| bc_skip (.int .u16 0) <| bc_skip (.int .u16 0) <| bc_take (tmS rfl rfl) <| bc_nil) (by kernel_rfl)) ?_
          refine rg_step 7 rfl (by kernel_rfl) (want_0) (oks_drop hS 3 rfl) ?_; intro K hK
          refine ow_alloc hS tz_75 rfl ?_
          clear hS; intro g1_7 w hg1_7 hS
          refine hK _ _ ?_; clear hK K
          refine rg_step 9 rfl (by kernel_rfl) (want_0) (oks_drop hS 4 rfl) ?_; intro K hK
          refine ow_storeA hS 0 rfl ts_75 (tmP rfl rfl) (tmA rfl rfl) rfl rfl rfl ?_
          clear hS; intro w hS
          try replace hS := St.nm (M' := [.blk _ _ [_, _, _, _], .row _ _ _ _ _, .blk _ _ [_, _, _, _], .row _ _ _ _ _, _]) hS rfl
          refine hK _ _ ?_; clear hK K
          refine rg_step 10 rfl (by kernel_rfl) (want_0) (oks_drop hS 4 rfl) ?_; intro K hK
          refine ow_storeA hS 2 rfl ts_75 (tmP rfl rfl) (tmA rfl rfl) rfl rfl rfl ?_
          clear hS; intro w hS
          try replace hS := St.nm (M' := [.blk _ _ [_, _, _, _], .row _ _ _ _ _, .blk _ _ [_, _, _, _], .row _ _ _ _ _, _]) hS rfl
          refine hK _ _ ?_; clear hK K
          refine rg_done (oks_drop hS 4 rfl) (by kernel_rfl) ?_
          exact then_n ⟨_, rfl, (by repeat (first | exact agree_self | exact agree_refl | refine agree_upd rfl ?_ | refine agree_mix rfl ?_)), g1_7, g1_8, (some ⟨g1_0, 0, none⟩), (some ⟨g1_5, 0, none⟩), (by first | rfl | go_num | exact congrArg (Value.int _) (by first | omega | (simp; done) | (simp; omega))), (by first | rfl | go_num | exact congrArg (Value.int _) (by first | omega | (simp; done) | (simp; omega))), (by subst hp; subst hq; exact ((hS.pick [0, 2, 3] rfl rfl).freeze 2 rfl))⟩
        · intro K hK
          refine ow_alloc hS tz_75 rfl ?_
          clear hS; intro g1_7 w hg1_7 hS
          refine hK _ _ ?_; clear hK K
          refine rg_step2 5 9 rfl rfl (by kernel_rfl) (want_0) (want_0) (oks_drop hS 3 rfl) ?_ ?_
          · intro K hK
            refine ow_make hS Try.underlying22 tz_5 rfl (tmI rfl rfl) (tmI rfl rfl) rfl (by omega) (by simp only [maxLen]; omega) ?_
            clear hS; intro g1_5 w hg1_5 hS
            refine hK _ _ ?_; clear hK K
            refine rg_take 6 rfl rfl (by kernel_rfl) (by kernel_rfl) (by kernel_rfl) (want_0) (fun w hok => x_build (bc_skip (.int .u16 0) <| bc_skip (.int .u16 0) <| bc_skip (.int .u16 0) <| bc_take (tmS rfl rfl) <| bc_nil) (by kernel_rfl)) ?_
            refine rg_step 9 rfl (by kernel_rfl) (want_0) (oks_drop hS 4 rfl) ?_; intro K hK
            refine ow_storeA hS 1 rfl ts_75 (tmP rfl rfl) (tmA rfl rfl) rfl rfl rfl ?_
            clear hS; intro w hS
            try replace hS := St.nm (M' := [.row _ _ _ _ _, .blk _ _ [_, _, _, _], .blk _ _ [_, _, _, _], .row _ _ _ _ _, _]) hS rfl
            refine hK _ _ ?_; clear hK K
            refine rg_step 10 rfl (by kernel_rfl) (want_0) (oks_drop hS 4 rfl) ?_; intro K hK
            refine ow_storeA hS 2 rfl ts_75 (tmP rfl rfl) (tmA rfl rfl) rfl rfl rfl ?_
            clear hS; intro w hS
            try replace hS := St.nm (M' := [.row _ _ _ _ _, .blk _ _ [_, _, _, _], .blk _ _ [_, _, _, _], .row _ _ _ _ _, _]) hS rfl
            refine hK _ _ ?_; clear hK K
            refine rg_done (oks_drop hS 4 rfl) (by kernel_rfl) ?_
            exact then_n ⟨_, rfl, (by repeat (first | exact agree_self | exact agree_refl | refine agree_upd rfl ?_ | refine agree_mix rfl ?_)), g1_7, g1_8, (some ⟨g1_0, 0, none⟩), (some ⟨g1_5, 0, none⟩), (by first | rfl | go_num | exact congrArg (Value.int _) (by first | omega | (simp; done) | (simp; omega))), (by first | rfl | go_num | exact congrArg (Value.int _) (by first | omega | (simp; done) | (simp; omega))), (by subst hp; subst hq; exact ((hS.pick [1, 2, 3] rfl rfl).freeze 2 rfl))⟩
          · intro K hK
            refine ow_storeA hS 0 rfl ts_75 (tmP rfl rfl) (tmA rfl rfl) rfl rfl rfl ?_
            clear hS; intro w hS
            try replace hS := St.nm (M' := [.blk _ _ [_, _, _, _], .blk _ _ [_, _, _, _], .row _ _ _ _ _, _]) hS rfl
            refine hK _ _ ?_; clear hK K
            refine rg_step 5 rfl (by kernel_rfl) (want_0) (oks_drop hS 3 rfl) ?_; intro K hK
            refine ow_make hS Try.underlying22 tz_5 rfl (tmI rfl rfl) (tmI rfl rfl) rfl (by omega) (by simp only [maxLen]; omega) ?_
            clear hS; intro g1_5 w hg1_5 hS
            refine hK _ _ ?_; clear hK K
            refine rg_take 6 rfl rfl (by kernel_rfl) (by kernel_rfl) (by kernel_rfl) (want_0) (fun w hok => x_build (bc_skip (.int .u16 0) <| bc_skip (.int .u16 0) <| bc_skip (.int .u16 0) <| bc_take (tmS rfl rfl) <| bc_nil) (by kernel_rfl)) ?_
            refine rg_step 10 rfl (by kernel_rfl) (want_0) (oks_drop hS 4 rfl) ?_; intro K hK
            refine ow_storeA hS 2 rfl ts_75 (tmP rfl rfl) (tmA rfl rfl) rfl rfl rfl ?_
            clear hS; intro w hS
            try replace hS := St.nm (M' := [.row _ _ _ _ _, .blk _ _ [_, _, _, _], .blk _ _ [_, _, _, _], .row _ _ _ _ _, _]) hS rfl
            refine hK _ _ ?_; clear hK K
            refine rg_done (oks_drop hS 4 rfl) (by kernel_rfl) ?_
            exact then_n ⟨_, rfl, (by repeat (first | exact agree_self | exact agree_refl | refine agree_upd rfl ?_ | refine agree_mix rfl ?_)), g1_7, g1_8, (some ⟨g1_0, 0, none⟩), (some ⟨g1_5, 0, none⟩), (by first | rfl | go_num | exact congrArg (Value.int _) (by first | omega | (simp; done) | (simp; omega))), (by first | rfl | go_num | exact congrArg (Value.int _) (by first | omega | (simp; done) | (simp; omega))), (by subst hp; subst hq; exact ((hS.pick [1, 2, 3] rfl rfl).freeze 2 rfl))⟩
    · intro K hK
      refine ow_make hS Try.underlying22 tz_5 rfl (tmI rfl rfl) (tmI rfl rfl) rfl (by omega) (by simp only [maxLen]; omega) ?_
      clear hS; intro g1_5 w hg1_5 hS
      refine hK _ _ ?_; clear hK K
      refine rg_take 6 rfl rfl (by kernel_rfl) (by kernel_rfl) (by kernel_rfl) (want_0) (fun w hok => x_build (bc_skip (.int .u16 0) <| bc_skip (.int .u16 0) <| bc_skip (.int .u16 0) <| bc_take (tmS rfl rfl) <| bc_nil) (by kernel_rfl)) ?_
      refine rg_step3 0 7 8 rfl rfl rfl (by kernel_rfl) (want_0) (want_0) (want_0) (oks_drop hS 1 rfl) ?_ ?_ ?_
      · intro K hK
        refine ow_make hS Try.underlying22 tz_5 rfl (ev_cN 65527) (ev_cN 65527) rfl (by omega) (by simp only [maxLen]; omega) ?_
        clear hS; intro g1_0 w hg1_0 hS
        refine hK _ _ ?_; clear hK K
        refine rg_take 1 rfl rfl (by kernel_rfl) (by kernel_rfl) (by kernel_rfl) (want_0) (fun w hok => x_build (bc_skip (.int .u16 0) <| bc_skip (.int .u16 0) <| bc_skip (.int .u16 0) <| bc_take (tmS rfl rfl) <| bc_nil) (by kernel_rfl)) ?_
        refine rg_step2 7 8 rfl rfl (by kernel_rfl) (want_0) (want_0) (oks_drop hS 2 rfl) ?_ ?_
        · intro K hK
          refine ow_alloc hS tz_75 rfl ?_
          clear hS; intro g1_7 w hg1_7 hS
          refine hK _ _ ?_; clear hK K
          refine rg_step 8 rfl (by kernel_rfl) (want_0) (oks_drop hS 3 rfl) ?_; intro K hK
          refine ow_alloc hS tz_75 rfl ?_
          clear hS; intro g1_8 w hg1_8 hS
          refine hK _ _ ?_; clear hK K
          refine rg_step 9 rfl (by kernel_rfl) (want_0) (oks_drop hS 4 rfl) ?_; intro K hK
          refine ow_storeA hS 1 rfl ts_75 (tmP rfl rfl) (tmA rfl rfl) rfl rfl rfl ?_
          clear hS; intro w hS
          try replace hS := St.nm (M' := [.blk _ _ [_, _, _, _], .blk _ _ [_, _, _, _], .row _ _ _ _ _, .row _ _ _ _ _, _]) hS rfl
          refine hK _ _ ?_; clear hK K
          refine rg_step 10 rfl (by kernel_rfl) (want_0) (oks_drop hS 4 rfl) ?_; intro K hK
          refine ow_storeA hS 0 rfl ts_75 (tmP rfl rfl) (tmA rfl rfl) rfl rfl rfl ?_
          clear hS; intro w hS
          try replace hS := St.nm (M' := [.blk _ _ [_, _, _, _], .blk _ _ [_, _, _, _], .row _ _ _ _ _, .row _ _ _ _ _, _]) hS rfl
          refine hK _ _ ?_; clear hK K
          refine rg_done (oks_drop hS 4 rfl) (by kernel_rfl) ?_
          exact then_n ⟨_, rfl, (by repeat (first | exact agree_self | exact agree_refl | refine agree_upd rfl ?_ | refine agree_mix rfl ?_)), g1_7, g1_8, (some ⟨g1_0, 0, none⟩), (some ⟨g1_5, 0, none⟩), (by first | rfl | go_num | exact congrArg (Value.int _) (by first | omega | (simp; done) | (simp; omega))), (by first | rfl | go_num | exact congrArg (Value.int _) (by first | omega | (simp; done) | (simp; omega))), (by subst hp; subst hq; exact ((hS.pick [1, 0, 2] rfl rfl).freeze 2 rfl))⟩
        · intro K hK
          refine ow_alloc hS tz_75 rfl ?_
          clear hS; intro g1_8 w hg1_8 hS
          refine hK _ _ ?_; clear hK K
          refine rg_step 7 rfl (by kernel_rfl) (want_0) (oks_drop hS 3 rfl) ?_; intro K hK
          refine ow_alloc hS tz_75 rfl ?_
          clear hS; intro g1_7 w hg1_7 hS
          refine hK _ _ ?_; clear hK K
          refine rg_step 9 rfl (by kernel_rfl) (want_0) (oks_drop hS 4 rfl) ?_; intro K hK
          refine ow_storeA hS 0 rfl ts_75 (tmP rfl rfl) (tmA rfl rfl) rfl rfl rfl ?_
          clear hS; intro w hS
          try replace hS := St.nm (M' := [.blk _ _ [_, _, _, _], .blk _ _ [_, _, _, _], .row _ _ _ _ _, .row _ _ _ _ _, _]) hS rfl
          refine hK _ _ ?_; clear hK K
          refine rg_step 10 rfl (by kernel_rfl) (want_0) (oks_drop hS 4 rfl) ?_; intro K hK
          refine ow_storeA hS 1 rfl ts_75 (tmP rfl rfl) (tmA rfl rfl) rfl rfl rfl ?_
          clear hS; intro w hS
          try replace hS := St.nm (M' := [.blk _ _ [_, _, _, _], .blk _ _ [_, _, _, _], .row _ _ _ _ _, .row _ _ _ _ _, _]) hS rfl
          refine hK _ _ ?_; clear hK K
          refine rg_done (oks_drop hS 4 rfl) (by kernel_rfl) ?_
          exact then_n ⟨_, rfl, (by repeat (first | exact agree_self | exact agree_refl | refine agree_upd rfl ?_ | refine agree_mix rfl ?_)), g1_7, g1_8, (some ⟨g1_0, 0, none⟩), (some ⟨g1_5, 0, none⟩), (by first | rfl | go_num | exact congrArg (Value.int _) (by first | omega | (simp; done) | (simp; omega))), (by first | rfl | go_num | exact congrArg (Value.int _) (by first | omega | (simp; done) | (simp; omega))), (by subst hp; subst hq; exact ((hS.pick [0, 1, 2] rfl rfl).freeze 2 rfl))⟩
      · intro K hK
        refine ow_alloc hS tz_75 rfl ?_
        clear hS; intro g1_7 w hg1_7 hS
        refine hK _ _ ?_; clear hK K
        refine rg_step2 0 8 rfl rfl (by kernel_rfl) (want_0) (want_0) (oks_drop hS 2 rfl) ?_ ?_
        · intro K hK
          refine ow_make hS Try.underlying22 tz_5 rfl (ev_cN 65527) (ev_cN 65527) rfl (by omega) (by simp only [maxLen]; omega) ?_
          clear hS; intro g1_0 w hg1_0 hS
          refine hK _ _ ?_; clear hK K
          refine rg_take 1 rfl rfl (by kernel_rfl) (by kernel_rfl) (by kernel_rfl) (want_0) (fun w hok => x_build (bc_skip (.int .u16 0) <| bc_skip (.int .u16 0) <| bc_skip (.int .u16 0) <| bc_take (tmS rfl rfl) <| bc_nil) (by kernel_rfl)) ?_
          refine rg_step 8 rfl (by kernel_rfl) (want_0) (oks_drop hS 3 rfl) ?_; intro K hK
          refine ow_alloc hS tz_75 rfl ?_
          clear hS; intro g1_8 w hg1_8 hS
          refine hK _ _ ?_; clear hK K
          refine rg_step 9 rfl (by kernel_rfl) (want_0) (oks_drop hS 4 rfl) ?_; intro K hK
          refine ow_storeA hS 2 rfl ts_75 (tmP rfl rfl) (tmA rfl rfl) rfl rfl rfl ?_
          clear hS; intro w hS
          try replace hS := St.nm (M' := [.blk _ _ [_, _, _, _], .row _ _ _ _ _, .blk _ _ [_, _, _, _], .row _ _ _ _ _, _]) hS rfl
          refine hK _ _ ?_; clear hK K
          refine rg_step 10 rfl (by kernel_rfl) (want_0) (oks_drop hS 4 rfl) ?_; intro K hK
          refine ow_storeA hS 0 rfl ts_75 (tmP rfl rfl) (tmA rfl rfl) rfl rfl rfl ?_
          clear hS; intro w hS
          try replace hS := St.nm (M' := [.blk _ _ [_, _, _, _], .row _ _ _ _ _, .blk _ _ [_, _, _, _], .row _ _ _ _ _, _]) hS rfl
          refine hK _ _ ?_; clear hK K
          refine rg_done (oks_drop hS 4 rfl) (by kernel_rfl) ?_
          exact then_n ⟨_, rfl, (by repeat (first | exact agree_self | exact agree_refl | refine agree_upd rfl ?_ | refine agree_mix rfl ?_)), g1_7, g1_8, (some ⟨g1_0, 0, none⟩), (some ⟨g1_5, 0, none⟩), (by first | rfl | go_num | exact congrArg (Value.int _) (by first | omega | (simp; done) | (simp; omega))), (by first | rfl | go_num | exact congrArg (Value.int _) (by first | omega | (simp; done) | (simp; omega))), (by subst hp; subst hq; exact ((hS.pick [2, 0, 1] rfl rfl).freeze 2 rfl))⟩
        · intro K hK
          refine ow_alloc hS tz_75 rfl ?_
          clear hS; intro g1_8 w hg1_8 hS
          refine hK _ _ ?_; clear hK K
          refine rg_step 0 rfl (by kernel_rfl) (want_0) (oks_drop hS 3 rfl) ?_; intro K hK
          refine ow_make hS Try.underlying22 tz_5 rfl (ev_cN 65527) (ev_cN 65527) rfl (by omega) (by simp only [maxLen]; omega) ?_
          clear hS; intro g1_0 w hg1_0 hS
          refine hK _ _ ?_; clear hK K
          refine rg_take 1 rfl rfl (by kernel_rfl) (by kernel_rfl) (by kernel_rfl) (want_0) (fun w hok => x_build (bc_skip (.int .u16 0) <| bc_skip (.int .u16 0) <| bc_skip (.int .u16 0) <| bc_take (tmS rfl rfl) <| bc_nil) (by kernel_rfl)) ?_
          refine rg_step 9 rfl (by kernel_rfl) (want_0) (oks_drop hS 4 rfl) ?_; intro K hK
          refine ow_storeA hS 2 rfl ts_75 (tmP rfl rfl) (tmA rfl rfl) rfl rfl rfl ?_
          clear hS; intro w hS
          try replace hS := St.nm (M' := [.row _ _ _ _ _, .blk _ _ [_, _, _, _], .blk _ _ [_, _, _, _], .row _ _ _ _ _, _]) hS rfl
          refine hK _ _ ?_; clear hK K
          refine rg_step 10 rfl (by kernel_rfl) (want_0) (oks_drop hS 4 rfl) ?_; intro K hK
          refine ow_storeA hS 1 rfl ts_75 (tmP rfl rfl) (tmA rfl rfl) rfl rfl rfl ?_
          clear hS; intro w hS
          try replace hS := St.nm (M' := [.row _ _ _ _ _, .blk _ _ [_, _, _, _], .blk _ _ [_, _, _, _], .row _ _ _ _ _, _]) hS rfl
          refine hK _ _ ?_; clear hK K
          refine rg_done (oks_drop hS 4 rfl) (by kernel_rfl) ?_
          exact then_n ⟨_, rfl, (by repeat (first | exact agree_self | exact agree_refl | refine agree_upd rfl ?_ | refine agree_mix rfl ?_)), g1_7, g1_8, (some ⟨g1_0, 0, none⟩), (some ⟨g1_5, 0, none⟩), (by first | rfl | go_num | exact congrArg (Value.int _) (by first | omega | (simp; done) | (simp; omega))), (by first | rfl | go_num | exact congrArg (Value.int _) (by first | omega | (simp; done) | (simp; omega))), (by subst hp; subst hq; exact ((hS.pick [2, 1, 0] rfl rfl).freeze 2 rfl))⟩
      · intro K hK
        refine ow_alloc hS tz_75 rfl ?_
        clear hS; intro g1_8 w hg1_8 hS
        refine hK _ _ ?_; clear hK K
        refine rg_step2 0 7 rfl rfl (by kernel_rfl) (want_0) (want_0) (oks_drop hS 2 rfl) ?_ ?_
        · intro K hK
          refine ow_make hS Try.underlying22 tz_5 rfl (ev_cN 65527) (ev_cN 65527) rfl (by omega) (by simp only [maxLen]; omega) ?_
          clear hS; intro g1_0 w hg1_0 hS
          refine hK _ _ ?_; clear hK K
          refine rg_take 1 rfl rfl (by kernel_rfl) (by kernel_rfl) (by kernel_rfl) (want_0) (fun w hok => x_build (bc_skip (.int .u16 0) <| bc_skip (.int .u16 0) <| bc_skip (.int .u16 0) <| bc_take (tmS rfl rfl) <| bc_nil) (by kernel_rfl)) ?_
          refine rg_step 7 rfl (by kernel_rfl) (want_0) (oks_drop hS 3 rfl) ?_; intro K hK
          refine ow_alloc hS tz_75 rfl ?_
          clear hS; intro g1_7 w hg1_7 hS
          refine hK _ _ ?_; clear hK K
          refine rg_step 9 rfl (by kernel_rfl) (want_0) (oks_drop hS 4 rfl) ?_; intro K hK
          refine ow_storeA hS 0 rfl ts_75 (tmP rfl rfl) (tmA rfl rfl) rfl rfl rfl ?_
          clear hS; intro w hS
          try replace hS := St.nm (M' := [.blk _ _ [_, _, _, _], .row _ _ _ _ _, .blk _ _ [_, _, _, _], .row _ _ _ _ _, _]) hS rfl
          refine hK _ _ ?_; clear hK K
          refine rg_step 10 rfl (by kernel_rfl) (want_0) (oks_drop hS 4 rfl) ?_; intro K hK
          refine ow_storeA hS 2 rfl ts_75 (tmP rfl rfl) (tmA rfl rfl) rfl rfl rfl ?_
          clear hS; intro w hS
          try replace hS := St.nm (M' := [.blk _ _ [_, _, _, _], .row _ _ _ _ _, .blk _ _ [_, _, _, _], .row _ _ _ _ _, _]) hS rfl
          refine hK _ _ ?_; clear hK K
          refine rg_done (oks_drop hS 4 rfl) (by kernel_rfl) ?_
          exact then_n ⟨_, rfl, (by repeat (first | exact agree_self | exact agree_refl | refine agree_upd rfl ?_ | refine agree_mix rfl ?_)), g1_7, g1_8, (some ⟨g1_0, 0, none⟩), (some ⟨g1_5, 0, none⟩), (by first | rfl | go_num | exact congrArg (Value.int _) (by first | omega | (simp; done) | (simp; omega))), (by first | rfl | go_num | exact congrArg (Value.int _) (by first | omega | (simp; done) | (simp; omega))), (by subst hp; subst hq; exact ((hS.pick [0, 2, 1] rfl rfl).freeze 2 rfl))⟩
        · intro K hK
          refine ow_alloc hS tz_75 rfl ?_
          clear hS; intro g1_7 w hg1_7 hS
          refine hK _ _ ?_; clear hK K
          refine rg_step 0 rfl (by kernel_rfl) (want_0) (oks_drop hS 3 rfl) ?_; intro K hK
          refine ow_make hS Try.underlying22 tz_5 rfl (ev_cN 65527) (ev_cN 65527) rfl (by omega) (by simp only [maxLen]; omega) ?_
          clear hS; intro g1_0 w hg1_0 hS
          refine hK _ _ ?_; clear hK K
          refine rg_take 1 rfl rfl (by kernel_rfl) (by kernel_rfl) (by kernel_rfl) (want_0) (fun w hok => x_build (bc_skip (.int .u16 0) <| bc_skip (.int .u16 0) <| bc_skip (.int .u16 0) <| bc_take (tmS rfl rfl) <| bc_nil) (by kernel_rfl)) ?_
          refine rg_step 9 rfl (by kernel_rfl) (want_0) (oks_drop hS 4 rfl) ?_; intro K hK
          refine ow_storeA hS 1 rfl ts_75 (tmP rfl rfl) (tmA rfl rfl) rfl rfl rfl ?_
          clear hS; intro w hS
          try replace hS := St.nm (M' := [.row _ _ _ _ _, .blk _ _ [_, _, _, _], .blk _ _ [_, _, _, _], .row _ _ _ _ _, _]) hS rfl
          refine hK _ _ ?_; clear hK K
          refine rg_step 10 rfl (by kernel_rfl) (want_0) (oks_drop hS 4 rfl) ?_; intro K hK
          refine ow_storeA hS 2 rfl ts_75 (tmP rfl rfl) (tmA rfl rfl) rfl rfl rfl ?_
          clear hS; intro w hS
          try replace hS := St.nm (M' := [.row _ _ _ _ _, .blk _ _ [_, _, _, _], .blk _ _ [_, _, _, _], .row _ _ _ _ _, _]) hS rfl
          refine hK _ _ ?_; clear hK K
          refine rg_done (oks_drop hS 4 rfl) (by kernel_rfl) ?_
          exact then_n ⟨_, rfl, (by repeat (first | exact agree_self | exact agree_refl | refine agree_upd rfl ?_ | refine agree_mix rfl ?_)), g1_7, g1_8, (some ⟨g1_0, 0, none⟩), (some ⟨g1_5, 0, none⟩), (by first | rfl | go_num | exact congrArg (Value.int _) (by first | omega | (simp; done) | (simp; omega))), (by first | rfl | go_num | exact congrArg (Value.int _) (by first | omega | (simp; done) | (simp; omega))), (by subst hp; subst hq; exact ((hS.pick [1, 2, 0] rfl rfl).freeze 2 rfl))⟩
    · intro K hK
      refine ow_alloc hS tz_75 rfl ?_
      clear hS; intro g1_7 w hg1_7 hS
      refine hK _ _ ?_; clear hK K
      refine rg_step3 0 5 8 rfl rfl rfl (by kernel_rfl) (want_0) (want_0) (want_0) (oks_drop hS 1 rfl) ?_ ?_ ?_
      · intro K hK
        refine ow_make hS Try.underlying22 tz_5 rfl (ev_cN 65527) (ev_cN 65527) rfl (by omega) (by simp only [maxLen]; omega) ?_
        clear hS; intro g1_0 w hg1_0 hS
        refine hK _ _ ?_; clear hK K
        refine rg_take 1 rfl rfl (by kernel_rfl) (by kernel_rfl) (by kernel_rfl) (want_0) (fun w hok => x_build (bc_skip (.int .u16 0) <| bc_skip (.int .u16 0) <| bc_skip (.int .u16 0) <| bc_take (tmS rfl rfl) <| bc_nil) (by kernel_rfl)) ?_
        refine rg_step2 5 8 rfl rfl (by kernel_rfl) (want_0) (want_0) (oks_drop hS 2 rfl) ?_ ?_
        · intro K hK
          refine ow_make hS Try.underlying22 tz_5 rfl (tmI rfl rfl) (tmI rfl rfl) rfl (by omega) (by simp only [maxLen]; omega) ?_
          clear hS; intro g1_5 w hg1_5 hS
          refine hK _ _ ?_; clear hK K
          refine rg_take 6 rfl rfl (by kernel_rfl) (by kernel_rfl) (by kernel_rfl) (want_0) (fun w hok => x_build (bc_skip (.int .u16 0) <| bc_skip (.int .u16 0) <| bc_skip (.int .u16 0) <| bc_take (tmS rfl rfl) <| bc_nil) (by kernel_rfl)) ?_
          refine rg_step 8 rfl (by kernel_rfl) (want_0) (oks_drop hS 3 rfl) ?_; intro K hK
          refine ow_alloc hS tz_75 rfl ?_
          clear hS; intro g1_8 w hg1_8 hS
          refine hK _ _ ?_; clear hK K
          refine rg_step 9 rfl (by kernel_rfl) (want_0) (oks_drop hS 4 rfl) ?_; intro K hK
          refine ow_storeA hS 3 rfl ts_75 (tmP rfl rfl) (tmA rfl rfl) rfl rfl rfl ?_
          clear hS; intro w hS
          try replace hS := St.nm (M' := [.blk _ _ [_, _, _, _], .row _ _ _ _ _, .row _ _ _ _ _, .blk _ _ [_, _, _, _], _]) hS rfl
          refine hK _ _ ?_; clear hK K
          refine rg_step 10 rfl (by kernel_rfl) (want_0) (oks_drop hS 4 rfl) ?_; intro K hK
          refine ow_storeA hS 0 rfl ts_75 (tmP rfl rfl) (tmA rfl rfl) rfl rfl rfl ?_
          clear hS; intro w hS
          try replace hS := St.nm (M' := [.blk _ _ [_, _, _, _], .row _ _ _ _ _, .row _ _ _ _ _, .blk _ _ [_, _, _, _], _]) hS rfl
          refine hK _ _ ?_; clear hK K
          refine rg_done (oks_drop hS 4 rfl) (by kernel_rfl) ?_
          exact then_n ⟨_, rfl, (by repeat (first | exact agree_self | exact agree_refl | refine agree_upd rfl ?_ | refine agree_mix rfl ?_)), g1_7, g1_8, (some ⟨g1_0, 0, none⟩), (some ⟨g1_5, 0, none⟩), (by first | rfl | go_num | exact congrArg (Value.int _) (by first | omega | (simp; done) | (simp; omega))), (by first | rfl | go_num | exact congrArg (Value.int _) (by first | omega | (simp; done) | (simp; omega))), (by subst hp; subst hq; exact ((hS.pick [3, 0, 2] rfl rfl).freeze 2 rfl))⟩
        · intro K hK
          refine ow_alloc hS tz_75 rfl ?_
          clear hS; intro g1_8 w hg1_8 hS
          refine hK _ _ ?_; clear hK K
          refine rg_step2 5 9 rfl rfl (by kernel_rfl) (want_0) (want_0) (oks_drop hS 3 rfl) ?_ ?_
          · intro K hK
            refine ow_make hS Try.underlying22 tz_5 rfl (tmI rfl rfl) (tmI rfl rfl) rfl (by omega) (by simp only [maxLen]; omega) ?_
            clear hS; intro g1_5 w hg1_5 hS
            refine hK _ _ ?_; clear hK K
            refine rg_take 6 rfl rfl (by kernel_rfl) (by kernel_rfl) (by kernel_rfl) (want_0) (fun w hok => x_build (bc_skip (.int .u16 0) <| bc_skip (.int .u16 0) <| bc_skip (.int .u16 0) <| bc_take (tmS rfl rfl) <| bc_nil) (by kernel_rfl)) ?_
            refine rg_step 9 rfl (by kernel_rfl) (want_0) (oks_drop hS 4 rfl) ?_; intro K hK
            refine ow_storeA hS 3 rfl ts_75 (tmP rfl rfl) (tmA rfl rfl) rfl rfl rfl ?_
            clear hS; intro w hS
            try replace hS := St.nm (M' := [.row _ _ _ _ _, .blk _ _ [_, _, _, _], .row _ _ _ _ _, .blk _ _ [_, _, _, _], _]) hS rfl
            refine hK _ _ ?_; clear hK K
            refine rg_step 10 rfl (by kernel_rfl) (want_0) (oks_drop hS 4 rfl) ?_; intro K hK
            refine ow_storeA hS 1 rfl ts_75 (tmP rfl rfl) (tmA rfl rfl) rfl rfl rfl ?_
            clear hS; intro w hS
            try replace hS := St.nm (M' := [.row _ _ _ _ _, .blk _ _ [_, _, _, _], .row _ _ _ _ _, .blk _ _ [_, _, _, _], _]) hS rfl
            refine hK _ _ ?_; clear hK K
            refine rg_done (oks_drop hS 4 rfl) (by kernel_rfl) ?_
            exact then_n ⟨_, rfl, (by repeat (first | exact agree_self | exact agree_refl | refine agree_upd rfl ?_ | refine agree_mix rfl ?_)), g1_7, g1_8, (some ⟨g1_0, 0, none⟩), (some ⟨g1_5, 0, none⟩), (by first | rfl | go_num | exact congrArg (Value.int _) (by first | omega | (simp; done) | (simp; omega))), (by first | rfl | go_num | exact congrArg (Value.int _) (by first | omega | (simp; done) | (simp; omega))), (by subst hp; subst hq; exact ((hS.pick [3, 1, 2] rfl rfl).freeze 2 rfl))⟩
          · intro K hK
            refine ow_storeA hS 2 rfl ts_75 (tmP rfl rfl) (tmA rfl rfl) rfl rfl rfl ?_
            clear hS; intro w hS
            try replace hS := St.nm (M' := [.blk _ _ [_, _, _, _], .row _ _ _ _ _, .blk _ _ [_, _, _, _], _]) hS rfl
            refine hK _ _ ?_; clear hK K
            refine rg_step 5 rfl (by kernel_rfl) (want_0) (oks_drop hS 3 rfl) ?_; intro K hK
            refine ow_make hS Try.underlying22 tz_5 rfl (tmI rfl rfl) (tmI rfl rfl) rfl (by omega) (by simp only [maxLen]; omega) ?_
            clear hS; intro g1_5 w hg1_5 hS
            refine hK _ _ ?_; clear hK K
            refine rg_take 6 rfl rfl (by kernel_rfl) (by kernel_rfl) (by kernel_rfl) (want_0) (fun w hok => x_build (bc_skip (.int .u16 0) <| bc_skip (.int .u16 0) <| bc_skip (.int .u16 0) <| bc_take (tmS rfl rfl) <| bc_nil) (by kernel_rfl)) ?_
            refine rg_step 10 rfl (by kernel_rfl) (want_0) (oks_drop hS 4 rfl) ?_; intro K hK
            refine ow_storeA hS 1 rfl ts_75 (tmP rfl rfl) (tmA rfl rfl) rfl rfl rfl ?_
            clear hS; intro w hS
            try replace hS := St.nm (M' := [.row _ _ _ _ _, .blk _ _ [_, _, _, _], .row _ _ _ _ _, .blk _ _ [_, _, _, _], _]) hS rfl
            refine hK _ _ ?_; clear hK K
            refine rg_done (oks_drop hS 4 rfl) (by kernel_rfl) ?_
            exact then_n ⟨_, rfl, (by repeat (first | exact agree_self | exact agree_refl | refine agree_upd rfl ?_ | refine agree_mix rfl ?_)), g1_7, g1_8, (some ⟨g1_0, 0, none⟩), (some ⟨g1_5, 0, none⟩), (by first | rfl | go_num | exact congrArg (Value.int _) (by first | omega | (simp; done) | (simp; omega))), (by first | rfl | go_num | exact congrArg (Value.int _) (by first | omega | (simp; done) | (simp; omega))), (by subst hp; subst hq; exact ((hS.pick [3, 1, 2] rfl rfl).freeze 2 rfl))⟩
      · intro K hK
        refine ow_make hS Try.underlying22 tz_5 rfl (tmI rfl rfl) (tmI rfl rfl) rfl (by omega) (by simp only [maxLen]; omega) ?_
        clear hS; intro g1_5 w hg1_5 hS
        refine hK _ _ ?_; clear hK K
        refine rg_take 6 rfl rfl (by kernel_rfl) (by kernel_rfl) (by kernel_rfl) (want_0) (fun w hok => x_build (bc_skip (.int .u16 0) <| bc_skip (.int .u16 0) <| bc_skip (.int .u16 0) <| bc_take (tmS rfl rfl) <| bc_nil) (by kernel_rfl)) ?_
        refine rg_step2 0 8 rfl rfl (by kernel_rfl) (want_0) (want_0) (oks_drop hS 2 rfl) ?_ ?_
        · intro K hK
          refine ow_make hS Try.underlying22 tz_5 rfl (ev_cN 65527) (ev_cN 65527) rfl (by omega) (by simp only [maxLen]; omega) ?_
          clear hS; intro g1_0 w hg1_0 hS
          refine hK _ _ ?_; clear hK K
          refine rg_take 1 rfl rfl (by kernel_rfl) (by kernel_rfl) (by kernel_rfl) (want_0) (fun w hok => x_build (bc_skip (.int .u16 0) <| bc_skip (.int .u16 0) <| bc_skip (.int .u16 0) <| bc_take (tmS rfl rfl) <| bc_nil) (by kernel_rfl)) ?_
          refine rg_step 8 rfl (by kernel_rfl) (want_0) (oks_drop hS 3 rfl) ?_; intro K hK
          refine ow_alloc hS tz_75 rfl ?_
          clear hS; intro g1_8 w hg1_8 hS
          refine hK _ _ ?_; clear hK K
          refine rg_step 9 rfl (by kernel_rfl) (want_0) (oks_drop hS 4 rfl) ?_; intro K hK
          refine ow_storeA hS 3 rfl ts_75 (tmP rfl rfl) (tmA rfl rfl) rfl rfl rfl ?_
          clear hS; intro w hS
          try replace hS := St.nm (M' := [.blk _ _ [_, _, _, _], .row _ _ _ _ _, .row _ _ _ _ _, .blk _ _ [_, _, _, _], _]) hS rfl
          refine hK _ _ ?_; clear hK K
          refine rg_step 10 rfl (by kernel_rfl) (want_0) (oks_drop hS 4 rfl) ?_; intro K hK
          refine ow_storeA hS 0 rfl ts_75 (tmP rfl rfl) (tmA rfl rfl) rfl rfl rfl ?_
          clear hS; intro w hS
          try replace hS := St.nm (M' := [.blk _ _ [_, _, _, _], .row _ _ _ _ _, .row _ _ _ _ _, .blk _ _ [_, _, _, _], _]) hS rfl
          refine hK _ _ ?_; clear hK K
          refine rg_done (oks_drop hS 4 rfl) (by kernel_rfl) ?_
          exact then_n ⟨_, rfl, (by repeat (first | exact agree_self | exact agree_refl | refine agree_upd rfl ?_ | refine agree_mix rfl ?_)), g1_7, g1_8, (some ⟨g1_0, 0, none⟩), (some ⟨g1_5, 0, none⟩), (by first | rfl | go_num | exact congrArg (Value.int _) (by first | omega | (simp; done) | (simp; omega))), (by first | rfl | go_num | exact congrArg (Value.int _) (by first | omega | (simp; done) | (simp; omega))), (by subst hp; subst hq; exact ((hS.pick [3, 0, 1] rfl rfl).freeze 2 rfl))⟩
        · intro K hK
          refine ow_alloc hS tz_75 rfl ?_
          clear hS; intro g1_8 w hg1_8 hS
          refine hK _ _ ?_; clear hK K
          refine rg_step 0 rfl (by kernel_rfl) (want_0) (oks_drop hS 3 rfl) ?_; intro K hK
          refine ow_make hS Try.underlying22 tz_5 rfl (ev_cN 65527) (ev_cN 65527) rfl (by omega) (by simp only [maxLen]; omega) ?_
          clear hS; intro g1_0 w hg1_0 hS
          refine hK _ _ ?_; clear hK K
          refine rg_take 1 rfl rfl (by kernel_rfl) (by kernel_rfl) (by kernel_rfl) (want_0) (fun w hok => x_build (bc_skip (.int .u16 0) <| bc_skip (.int .u16 0) <| bc_skip (.int .u16 0) <| bc_take (tmS rfl rfl) <| bc_nil) (by kernel_rfl)) ?_
          refine rg_step 9 rfl (by kernel_rfl) (want_0) (oks_drop hS 4 rfl) ?_; intro K hK
          refine ow_storeA hS 3 rfl ts_75 (tmP rfl rfl) (tmA rfl rfl) rfl rfl rfl ?_
          clear hS; intro w hS
          try replace hS := St.nm (M' := [.row _ _ _ _ _, .blk _ _ [_, _, _, _], .row _ _ _ _ _, .blk _ _ [_, _, _, _], _]) hS rfl
          refine hK _ _ ?_; clear hK K
          refine rg_step 10 rfl (by kernel_rfl) (want_0) (oks_drop hS 4 rfl) ?_; intro K hK
          refine ow_storeA hS 1 rfl ts_75 (tmP rfl rfl) (tmA rfl rfl) rfl rfl rfl ?_
          clear hS; intro w hS
          try replace hS := St.nm (M' := [.row _ _ _ _ _, .blk _ _ [_, _, _, _], .row _ _ _ _ _, .blk _ _ [_, _, _, _], _]) hS rfl
          refine hK _ _ ?_; clear hK K
          refine rg_done (oks_drop hS 4 rfl) (by kernel_rfl) ?_
          exact then_n ⟨_, rfl, (by repeat (first | exact agree_self | exact agree_refl | refine agree_upd rfl ?_ | refine agree_mix rfl ?_)), g1_7, g1_8, (some ⟨g1_0, 0, none⟩), (some ⟨g1_5, 0, none⟩), (by first | rfl | go_num | exact congrArg (Value.int _) (by first | omega | (simp; done) | (simp; omega))), (by first | rfl | go_num | exact congrArg (Value.int _) (by first | omega | (simp; done) | (simp; omega))), (by subst hp; subst hq; exact ((hS.pick [3, 1, 0] rfl rfl).freeze 2 rfl))⟩
      · intro K hK
        refine ow_alloc hS tz_75 rfl ?_
        clear hS; intro g1_8 w hg1_8 hS
        refine hK _ _ ?_; clear hK K
        refine rg_step2 0 5 rfl rfl (by kernel_rfl) (want_0) (want_0) (oks_drop hS 2 rfl) ?_ ?_
        · intro K hK
          refine ow_make hS Try.underlying22 tz_5 rfl (ev_cN 65527) (ev_cN 65527) rfl (by omega) (by simp only [maxLen]; omega) ?_
          clear hS; intro g1_0 w hg1_0 hS
          refine hK _ _ ?_; clear hK K
          refine rg_take 1 rfl rfl (by kernel_rfl) (by kernel_rfl) (by kernel_rfl) (want_0) (fun w hok => x_build (bc_skip (.int .u16 0) <| bc_skip (.int .u16 0) <| bc_skip (.int .u16 0) <| bc_take (tmS rfl rfl) <| bc_nil) (by kernel_rfl)) ?_
          refine rg_step2 5 9 rfl rfl (by kernel_rfl) (want_0) (want_0) (oks_drop hS 3 rfl) ?_ ?_
          · intro K hK
            refine ow_make hS Try.underlying22 tz_5 rfl (tmI rfl rfl) (tmI rfl rfl) rfl (by omega) (by simp only [maxLen]; omega) ?_
            clear hS; intro g1_5 w hg1_5 hS
            refine hK _ _ ?_; clear hK K
            refine rg_take 6 rfl rfl (by kernel_rfl) (by kernel_rfl) (by kernel_rfl) (want_0) (fun w hok => x_build (bc_skip (.int .u16 0) <| bc_skip (.int .u16 0) <| bc_skip (.int .u16 0) <| bc_take (tmS rfl rfl) <| bc_nil) (by kernel_rfl)) ?_
            refine rg_step 9 rfl (by kernel_rfl) (want_0) (oks_drop hS 4 rfl) ?_; intro K hK
            refine ow_storeA hS 3 rfl ts_75 (tmP rfl rfl) (tmA rfl rfl) rfl rfl rfl ?_
            clear hS; intro w hS
            try replace hS := St.nm (M' := [.row _ _ _ _ _, .row _ _ _ _ _, .blk _ _ [_, _, _, _], .blk _ _ [_, _, _, _], _]) hS rfl
            refine hK _ _ ?_; clear hK K
            refine rg_step 10 rfl (by kernel_rfl) (want_0) (oks_drop hS 4 rfl) ?_; intro K hK
            refine ow_storeA hS 2 rfl ts_75 (tmP rfl rfl) (tmA rfl rfl) rfl rfl rfl ?_
            clear hS; intro w hS
            try replace hS := St.nm (M' := [.row _ _ _ _ _, .row _ _ _ _ _, .blk _ _ [_, _, _, _], .blk _ _ [_, _, _, _], _]) hS rfl
            refine hK _ _ ?_; clear hK K
            refine rg_done (oks_drop hS 4 rfl) (by kernel_rfl) ?_
            exact then_n ⟨_, rfl, (by repeat (first | exact agree_self | exact agree_refl | refine agree_upd rfl ?_ | refine agree_mix rfl ?_)), g1_7, g1_8, (some ⟨g1_0, 0, none⟩), (some ⟨g1_5, 0, none⟩), (by first | rfl | go_num | exact congrArg (Value.int _) (by first | omega | (simp; done) | (simp; omega))), (by first | rfl | go_num | exact congrArg (Value.int _) (by first | omega | (simp; done) | (simp; omega))), (by subst hp; subst hq; exact ((hS.pick [3, 2, 1] rfl rfl).freeze 2 rfl))⟩
          · intro K hK
            refine ow_storeA hS 2 rfl ts_75 (tmP rfl rfl) (tmA rfl rfl) rfl rfl rfl ?_
            clear hS; intro w hS
            try replace hS := St.nm (M' := [.row _ _ _ _ _, .blk _ _ [_, _, _, _], .blk _ _ [_, _, _, _], _]) hS rfl
            refine hK _ _ ?_; clear hK K
            refine rg_step 5 rfl (by kernel_rfl) (want_0) (oks_drop hS 3 rfl) ?_; intro K hK
            refine ow_make hS Try.underlying22 tz_5 rfl (tmI rfl rfl) (tmI rfl rfl) rfl (by omega) (by simp only [maxLen]; omega) ?_
            clear hS; intro g1_5 w hg1_5 hS
            refine hK _ _ ?_; clear hK K
            refine rg_take 6 rfl rfl (by kernel_rfl) (by kernel_rfl) (by kernel_rfl) (want_0) (fun w hok => x_build (bc_skip (.int .u16 0) <| bc_skip (.int .u16 0) <| bc_skip (.int .u16 0) <| bc_take (tmS rfl rfl) <| bc_nil) (by kernel_rfl)) ?_
            refine rg_step 10 rfl (by kernel_rfl) (want_0) (oks_drop hS 4 rfl) ?_; intro K hK
            refine ow_storeA hS 2 rfl ts_75 (tmP rfl rfl) (tmA rfl rfl) rfl rfl rfl ?_
            clear hS; intro w hS
            try replace hS := St.nm (M' := [.row _ _ _ _ _, .row _ _ _ _ _, .blk _ _ [_, _, _, _], .blk _ _ [_, _, _, _], _]) hS rfl
            refine hK _ _ ?_; clear hK K
            refine rg_done (oks_drop hS 4 rfl) (by kernel_rfl) ?_
            exact then_n ⟨_, rfl, (by repeat (first | exact agree_self | exact agree_refl | refine agree_upd rfl ?_ | refine agree_mix rfl ?_)), g1_7, g1_8, (some ⟨g1_0, 0, none⟩), (some ⟨g1_5, 0, none⟩), (by first | rfl | go_num | exact congrArg (Value.int _) (by first | omega | (simp; done) | (simp; omega))), (by first | rfl | go_num | exact congrArg (Value.int _) (by first | omega | (simp; done) | (simp; omega))), (by subst hp; subst hq; exact ((hS.pick [3, 2, 1] rfl rfl).freeze 2 rfl))⟩
        · intro K hK
          refine ow_make hS Try.underlying22 tz_5 rfl (tmI rfl rfl) (tmI rfl rfl) rfl (by omega) (by simp only [maxLen]; omega) ?_
          clear hS; intro g1_5 w hg1_5 hS
          refine hK _ _ ?_; clear hK K
          refine rg_take 6 rfl rfl (by kernel_rfl) (by kernel_rfl) (by kernel_rfl) (want_0) (fun w hok => x_build (bc_skip (.int .u16 0) <| bc_skip (.int .u16 0) <| bc_skip (.int .u16 0) <| bc_take (tmS rfl rfl) <| bc_nil) (by kernel_rfl)) ?_
          refine rg_step 0 rfl (by kernel_rfl) (want_0) (oks_drop hS 3 rfl) ?_; intro K hK
          refine ow_make hS Try.underlying22 tz_5 rfl (ev_cN 65527) (ev_cN 65527) rfl (by omega) (by simp only [maxLen]; omega) ?_
          clear hS; intro g1_0 w hg1_0 hS
          refine hK _ _ ?_; clear hK K
          refine rg_take 1 rfl rfl (by kernel_rfl) (by kernel_rfl) (by kernel_rfl) (want_0) (fun w hok => x_build (bc_skip (.int .u16 0) <| bc_skip (.int .u16 0) <| bc_skip (.int .u16 0) <| bc_take (tmS rfl rfl) <| bc_nil) (by kernel_rfl)) ?_
          refine rg_step 9 rfl (by kernel_rfl) (want_0) (oks_drop hS 4 rfl) ?_; intro K hK
          refine ow_storeA hS 3 rfl ts_75 (tmP rfl rfl) (tmA rfl rfl) rfl rfl rfl ?_
          clear hS; intro w hS
          try replace hS := St.nm (M' := [.row _ _ _ _ _, .row _ _ _ _ _, .blk _ _ [_, _, _, _], .blk _ _ [_, _, _, _], _]) hS rfl
          refine hK _ _ ?_; clear hK K
          refine rg_step 10 rfl (by kernel_rfl) (want_0) (oks_drop hS 4 rfl) ?_; intro K hK
          refine ow_storeA hS 2 rfl ts_75 (tmP rfl rfl) (tmA rfl rfl) rfl rfl rfl ?_
          clear hS; intro w hS
          try replace hS := St.nm (M' := [.row _ _ _ _ _, .row _ _ _ _ _, .blk _ _ [_, _, _, _], .blk _ _ [_, _, _, _], _]) hS rfl
          refine hK _ _ ?_; clear hK K
          refine rg_done (oks_drop hS 4 rfl) (by kernel_rfl) ?_
          exact then_n ⟨_, rfl, (by repeat (first | exact agree_self | exact agree_refl | refine agree_upd rfl ?_ | refine agree_mix rfl ?_)), g1_7, g1_8, (some ⟨g1_0, 0, none⟩), (some ⟨g1_5, 0, none⟩), (by first | rfl | go_num | exact congrArg (Value.int _) (by first | omega | (simp; done) | (simp; omega))), (by first | rfl | go_num | exact congrArg (Value.int _) (by first | omega | (simp; done) | (simp; omega))), (by subst hp; subst hq; exact ((hS.pick [3, 2, 0] rfl rfl).freeze 2 rfl))⟩
    · intro K hK
      refine ow_alloc hS tz_75 rfl ?_
      clear hS; intro g1_8 w hg1_8 hS
      refine hK _ _ ?_; clear hK K
      refine rg_step3 0 5 7 rfl rfl rfl (by kernel_rfl) (want_0) (want_0) (want_0) (oks_drop hS 1 rfl) ?_ ?_ ?_
      · intro K hK
        refine ow_make hS Try.underlying22 tz_5 rfl (ev_cN 65527) (ev_cN 65527) rfl (by omega) (by simp only [maxLen]; omega) ?_
        clear hS; intro g1_0 w hg1_0 hS
        refine hK _ _ ?_; clear hK K
        refine rg_take 1 rfl rfl (by kernel_rfl) (by kernel_rfl) (by kernel_rfl) (want_0) (fun w hok => x_build (bc_skip (.int .u16 0) <| bc_skip (.int .u16 0) <| bc_skip (.int .u16 0) <| bc_take (tmS rfl rfl) <| bc_nil) (by kernel_rfl)) ?_
        refine rg_step2 5 7 rfl rfl (by kernel_rfl) (want_0) (want_0) (oks_drop hS 2 rfl) ?_ ?_
        · intro K hK
          refine ow_make hS Try.underlying22 tz_5 rfl (tmI rfl rfl) (tmI rfl rfl) rfl (by omega) (by simp only [maxLen]; omega) ?_
          clear hS; intro g1_5 w hg1_5 hS
          refine hK _ _ ?_; clear hK K
          refine rg_take 6 rfl rfl (by kernel_rfl) (by kernel_rfl) (by kernel_rfl) (want_0) (fun w hok => x_build (bc_skip (.int .u16 0) <| bc_skip (.int .u16 0) <| bc_skip (.int .u16 0) <| bc_take (tmS rfl rfl) <| bc_nil) (by kernel_rfl)) ?_
          refine rg_step 7 rfl (by kernel_rfl) (want_0) (oks_drop hS 3 rfl) ?_; intro K hK
          refine ow_alloc hS tz_75 rfl ?_
          clear hS; intro g1_7 w hg1_7 hS
          refine hK _ _ ?_; clear hK K
          refine rg_step 9 rfl (by kernel_rfl) (want_0) (oks_drop hS 4 rfl) ?_; intro K hK
          refine ow_storeA hS 0 rfl ts_75 (tmP rfl rfl) (tmA rfl rfl) rfl rfl rfl ?_
          clear hS; intro w hS
          try replace hS := St.nm (M' := [.blk _ _ [_, _, _, _], .row _ _ _ _ _, .row _ _ _ _ _, .blk _ _ [_, _, _, _], _]) hS rfl
          refine hK _ _ ?_; clear hK K
          refine rg_step 10 rfl (by kernel_rfl) (want_0) (oks_drop hS 4 rfl) ?_; intro K hK
          refine ow_storeA hS 3 rfl ts_75 (tmP rfl rfl) (tmA rfl rfl) rfl rfl rfl ?_
          clear hS; intro w hS
          try replace hS := St.nm (M' := [.blk _ _ [_, _, _, _], .row _ _ _ _ _, .row _ _ _ _ _, .blk _ _ [_, _, _, _], _]) hS rfl
          refine hK _ _ ?_; clear hK K
          refine rg_done (oks_drop hS 4 rfl) (by kernel_rfl) ?_
          exact then_n ⟨_, rfl, (by repeat (first | exact agree_self | exact agree_refl | refine agree_upd rfl ?_ | refine agree_mix rfl ?_)), g1_7, g1_8, (some ⟨g1_0, 0, none⟩), (some ⟨g1_5, 0, none⟩), (by first | rfl | go_num | exact congrArg (Value.int _) (by first | omega | (simp; done) | (simp; omega))), (by first | rfl | go_num | exact congrArg (Value.int _) (by first | omega | (simp; done) | (simp; omega))), (by subst hp; subst hq; exact ((hS.pick [0, 3, 2] rfl rfl).freeze 2 rfl))⟩
        · intro K hK
          refine ow_alloc hS tz_75 rfl ?_
          clear hS; intro g1_7 w hg1_7 hS
          refine hK _ _ ?_; clear hK K
          refine rg_step2 5 9 rfl rfl (by kernel_rfl) (want_0) (want_0) (oks_drop hS 3 rfl) ?_ ?_
          · intro K hK
            refine ow_make hS Try.underlying22 tz_5 rfl (tmI rfl rfl) (tmI rfl rfl) rfl (by omega) (by simp only [maxLen]; omega) ?_
            clear hS; intro g1_5 w hg1_5 hS
            refine hK _ _ ?_; clear hK K
            refine rg_take 6 rfl rfl (by kernel_rfl) (by kernel_rfl) (by kernel_rfl) (want_0) (fun w hok => x_build (bc_skip (.int .u16 0) <| bc_skip (.int .u16 0) <| bc_skip (.int .u16 0) <| bc_take (tmS rfl rfl) <| bc_nil) (by kernel_rfl)) ?_
            refine rg_step 9 rfl (by kernel_rfl) (want_0) (oks_drop hS 4 rfl) ?_; intro K hK
            refine ow_storeA hS 1 rfl ts_75 (tmP rfl rfl) (tmA rfl rfl) rfl rfl rfl ?_
            clear hS; intro w hS
            try replace hS := St.nm (M' := [.row _ _ _ _ _, .blk _ _ [_, _, _, _], .row _ _ _ _ _, .blk _ _ [_, _, _, _], _]) hS rfl
            refine hK _ _ ?_; clear hK K
            refine rg_step 10 rfl (by kernel_rfl) (want_0) (oks_drop hS 4 rfl) ?_; intro K hK
            refine ow_storeA hS 3 rfl ts_75 (tmP rfl rfl) (tmA rfl rfl) rfl rfl rfl ?_
            clear hS; intro w hS
            try replace hS := St.nm (M' := [.row _ _ _ _ _, .blk _ _ [_, _, _, _], .row _ _ _ _ _, .blk _ _ [_, _, _, _], _]) hS rfl
            refine hK _ _ ?_; clear hK K
            refine rg_done (oks_drop hS 4 rfl) (by kernel_rfl) ?_
            exact then_n ⟨_, rfl, (by repeat (first | exact agree_self | exact agree_refl | refine agree_upd rfl ?_ | refine agree_mix rfl ?_)), g1_7, g1_8, (some ⟨g1_0, 0, none⟩), (some ⟨g1_5, 0, none⟩), (by first | rfl | go_num | exact congrArg (Value.int _) (by first | omega | (simp; done) | (simp; omega))), (by first | rfl | go_num | exact congrArg (Value.int _) (by first | omega | (simp; done) | (simp; omega))), (by subst hp; subst hq; exact ((hS.pick [1, 3, 2] rfl rfl).freeze 2 rfl))⟩
          · intro K hK
            refine ow_storeA hS 0 rfl ts_75 (tmP rfl rfl) (tmA rfl rfl) rfl rfl rfl ?_
            clear hS; intro w hS
            try replace hS := St.nm (M' := [.blk _ _ [_, _, _, _], .row _ _ _ _ _, .blk _ _ [_, _, _, _], _]) hS rfl
            refine hK _ _ ?_; clear hK K
            refine rg_step 5 rfl (by kernel_rfl) (want_0) (oks_drop hS 3 rfl) ?_; intro K hK
            refine ow_make hS Try.underlying22 tz_5 rfl (tmI rfl rfl) (tmI rfl rfl) rfl (by omega) (by simp only [maxLen]; omega) ?_
            clear hS; intro g1_5 w hg1_5 hS
            refine hK _ _ ?_; clear hK K
            refine rg_take 6 rfl rfl (by kernel_rfl) (by kernel_rfl) (by kernel_rfl) (want_0) (fun w hok => x_build (bc_skip (.int .u16 0) <| bc_skip (.int .u16 0) <| bc_skip (.int .u16 0) <| bc_take (tmS rfl rfl) <| bc_nil) (by kernel_rfl)) ?_
            refine rg_step 10 rfl (by kernel_rfl) (want_0) (oks_drop hS 4 rfl) ?_; intro K hK
            refine ow_storeA hS 3 rfl ts_75 (tmP rfl rfl) (tmA rfl rfl) rfl rfl rfl ?_
            clear hS; intro w hS
            try replace hS := St.nm (M' := [.row _ _ _ _ _, .blk _ _ [_, _, _, _], .row _ _ _ _ _, .blk _ _ [_, _, _, _], _]) hS rfl
            refine hK _ _ ?_; clear hK K
            refine rg_done (oks_drop hS 4 rfl) (by kernel_rfl) ?_
            exact then_n ⟨_, rfl, (by repeat (first | exact agree_self | exact agree_refl | refine agree_upd rfl ?_ | refine agree_mix rfl ?_)), g1_7, g1_8, (some ⟨g1_0, 0, none⟩), (some ⟨g1_5, 0, none⟩), (by first | rfl | go_num | exact congrArg (Value.int _) (by first | omega | (simp; done) | (simp; omega))), (by first | rfl | go_num | exact congrArg (Value.int _) (by first | omega | (simp; done) | (simp; omega))), (by subst hp; subst hq; exact ((hS.pick [1, 3, 2] rfl rfl).freeze 2 rfl))⟩
      · intro K hK
        refine ow_make hS Try.underlying22 tz_5 rfl (tmI rfl rfl) (tmI rfl rfl) rfl (by omega) (by simp only [maxLen]; omega) ?_
        clear hS; intro g1_5 w hg1_5 hS
        refine hK _ _ ?_; clear hK K
        refine rg_take 6 rfl rfl (by kernel_rfl) (by kernel_rfl) (by kernel_rfl) (want_0) (fun w hok => x_build (bc_skip (.int .u16 0) <| bc_skip (.int .u16 0) <| bc_skip (.int .u16 0) <| bc_take (tmS rfl rfl) <| bc_nil) (by kernel_rfl)) ?_
        refine rg_step2 0 7 rfl rfl (by kernel_rfl) (want_0) (want_0) (oks_drop hS 2 rfl) ?_ ?_
        · intro K hK
          refine ow_make hS Try.underlying22 tz_5 rfl (ev_cN 65527) (ev_cN 65527) rfl (by omega) (by simp only [maxLen]; omega) ?_
          clear hS; intro g1_0 w hg1_0 hS
          refine hK _ _ ?_; clear hK K
          refine rg_take 1 rfl rfl (by kernel_rfl) (by kernel_rfl) (by kernel_rfl) (want_0) (fun w hok => x_build (bc_skip (.int .u16 0) <| bc_skip (.int .u16 0) <| bc_skip (.int .u16 0) <| bc_take (tmS rfl rfl) <| bc_nil) (by kernel_rfl)) ?_
          refine rg_step 7 rfl (by kernel_rfl) (want_0) (oks_drop hS 3 rfl) ?_; intro K hK
          refine ow_alloc hS tz_75 rfl ?_
          clear hS; intro g1_7 w hg1_7 hS
          refine hK _ _ ?_; clear hK K
          refine rg_step 9 rfl (by kernel_rfl) (want_0) (oks_drop hS 4 rfl) ?_; intro K hK
          refine ow_storeA hS 0 rfl ts_75 (tmP rfl rfl) (tmA rfl rfl) rfl rfl rfl ?_
          clear hS; intro w hS
          try replace hS := St.nm (M' := [.blk _ _ [_, _, _, _], .row _ _ _ _ _, .row _ _ _ _ _, .blk _ _ [_, _, _, _], _]) hS rfl
          refine hK _ _ ?_; clear hK K
          refine rg_step 10 rfl (by kernel_rfl) (want_0) (oks_drop hS 4 rfl) ?_; intro K hK
          refine ow_storeA hS 3 rfl ts_75 (tmP rfl rfl) (tmA rfl rfl) rfl rfl rfl ?_
          clear hS; intro w hS
          try replace hS := St.nm (M' := [.blk _ _ [_, _, _, _], .row _ _ _ _ _, .row _ _ _ _ _, .blk _ _ [_, _, _, _], _]) hS rfl
          refine hK _ _ ?_; clear hK K
          refine rg_done (oks_drop hS 4 rfl) (by kernel_rfl) ?_
          exact then_n ⟨_, rfl, (by repeat (first | exact agree_self | exact agree_refl | refine agree_upd rfl ?_ | refine agree_mix rfl ?_)), g1_7, g1_8, (some ⟨g1_0, 0, none⟩), (some ⟨g1_5, 0, none⟩), (by first | rfl | go_num | exact congrArg (Value.int _) (by first | omega | (simp; done) | (simp; omega))), (by first | rfl | go_num | exact congrArg (Value.int _) (by first | omega | (simp; done) | (simp; omega))), (by subst hp; subst hq; exact ((hS.pick [0, 3, 1] rfl rfl).freeze 2 rfl))⟩
        · intro K hK
          refine ow_alloc hS tz_75 rfl ?_
          clear hS; intro g1_7 w hg1_7 hS
          refine hK _ _ ?_; clear hK K
          refine rg_step 0 rfl (by kernel_rfl) (want_0) (oks_drop hS 3 rfl) ?_; intro K hK
          refine ow_make hS Try.underlying22 tz_5 rfl (ev_cN 65527) (ev_cN 65527) rfl (by omega) (by simp only [maxLen]; omega) ?_
          clear hS; intro g1_0 w hg1_0 hS
          refine hK _ _ ?_; clear hK K
          refine rg_take 1 rfl rfl (by kernel_rfl) (by kernel_rfl) (by kernel_rfl) (want_0) (fun w hok => x_build (bc_skip (.int .u16 0) <| bc_skip (.int .u16 0) <| bc_skip (.int .u16 0) <| bc_take (tmS rfl rfl) <| bc_nil) (by kernel_rfl)) ?_
          refine rg_step 9 rfl (by kernel_rfl) (want_0) (oks_drop hS 4 rfl) ?_; intro K hK
          refine ow_storeA hS 1 rfl ts_75 (tmP rfl rfl) (tmA rfl rfl) rfl rfl rfl ?_
          clear hS; intro w hS
          try replace hS := St.nm (M' := [.row _ _ _ _ _, .blk _ _ [_, _, _, _], .row _ _ _ _ _, .blk _ _ [_, _, _, _], _]) hS rfl
          refine hK _ _ ?_; clear hK K
          refine rg_step 10 rfl (by kernel_rfl) (want_0) (oks_drop hS 4 rfl) ?_; intro K hK
          refine ow_storeA hS 3 rfl ts_75 (tmP rfl rfl) (tmA rfl rfl) rfl rfl rfl ?_
          clear hS; intro w hS
          try replace hS := St.nm (M' := [.row _ _ _ _ _, .blk _ _ [_, _, _, _], .row _ _ _ _ _, .blk _ _ [_, _, _, _], _]) hS rfl
          refine hK _ _ ?_; clear hK K
          refine rg_done (oks_drop hS 4 rfl) (by kernel_rfl) ?_
          exact then_n ⟨_, rfl, (by repeat (first | exact agree_self | exact agree_refl | refine agree_upd rfl ?_ | refine agree_mix rfl ?_)), g1_7, g1_8, (some ⟨g1_0, 0, none⟩), (some ⟨g1_5, 0, none⟩), (by first | rfl | go_num | exact congrArg (Value.int _) (by first | omega | (simp; done) | (simp; omega))), (by first | rfl | go_num | exact congrArg (Value.int _) (by first | omega | (simp; done) | (simp; omega))), (by subst hp; subst hq; exact ((hS.pick [1, 3, 0] rfl rfl).freeze 2 rfl))⟩
      · intro K hK
        refine ow_alloc hS tz_75 rfl ?_
        clear hS; intro g1_7 w hg1_7 hS
        refine hK _ _ ?_; clear hK K
        refine rg_step2 0 5 rfl rfl (by kernel_rfl) (want_0) (want_0) (oks_drop hS 2 rfl) ?_ ?_
        · intro K hK
          refine ow_make hS Try.underlying22 tz_5 rfl (ev_cN 65527) (ev_cN 65527) rfl (by omega) (by simp only [maxLen]; omega) ?_
          clear hS; intro g1_0 w hg1_0 hS
          refine hK _ _ ?_; clear hK K
          refine rg_take 1 rfl rfl (by kernel_rfl) (by kernel_rfl) (by kernel_rfl) (want_0) (fun w hok => x_build (bc_skip (.int .u16 0) <| bc_skip (.int .u16 0) <| bc_skip (.int .u16 0) <| bc_take (tmS rfl rfl) <| bc_nil) (by kernel_rfl)) ?_
          refine rg_step2 5 9 rfl rfl (by kernel_rfl) (want_0) (want_0) (oks_drop hS 3 rfl) ?_ ?_
          · intro K hK
            refine ow_make hS Try.underlying22 tz_5 rfl (tmI rfl rfl) (tmI rfl rfl) rfl (by omega) (by simp only [maxLen]; omega) ?_
            clear hS; intro g1_5 w hg1_5 hS
            refine hK _ _ ?_; clear hK K
            refine rg_take 6 rfl rfl (by kernel_rfl) (by kernel_rfl) (by kernel_rfl) (want_0) (fun w hok => x_build (bc_skip (.int .u16 0) <| bc_skip (.int .u16 0) <| bc_skip (.int .u16 0) <| bc_take (tmS rfl rfl) <| bc_nil) (by kernel_rfl)) ?_
            refine rg_step 9 rfl (by kernel_rfl) (want_0) (oks_drop hS 4 rfl) ?_; intro K hK
            refine ow_storeA hS 2 rfl ts_75 (tmP rfl rfl) (tmA rfl rfl) rfl rfl rfl ?_
            clear hS; intro w hS
            try replace hS := St.nm (M' := [.row _ _ _ _ _, .row _ _ _ _ _, .blk _ _ [_, _, _, _], .blk _ _ [_, _, _, _], _]) hS rfl
            refine hK _ _ ?_; clear hK K
            refine rg_step 10 rfl (by kernel_rfl) (want_0) (oks_drop hS 4 rfl) ?_; intro K hK
            refine ow_storeA hS 3 rfl ts_75 (tmP rfl rfl) (tmA rfl rfl) rfl rfl rfl ?_
            clear hS; intro w hS
            try replace hS := St.nm (M' := [.row _ _ _ _ _, .row _ _ _ _ _, .blk _ _ [_, _, _, _], .blk _ _ [_, _, _, _], _]) hS rfl
            refine hK _ _ ?_; clear hK K
            refine rg_done (oks_drop hS 4 rfl) (by kernel_rfl) ?_
            exact then_n ⟨_, rfl, (by repeat (first | exact agree_self | exact agree_refl | refine agree_upd rfl ?_ | refine agree_mix rfl ?_)), g1_7, g1_8, (some ⟨g1_0, 0, none⟩), (some ⟨g1_5, 0, none⟩), (by first | rfl | go_num | exact congrArg (Value.int _) (by first | omega | (simp; done) | (simp; omega))), (by first | rfl | go_num | exact congrArg (Value.int _) (by first | omega | (simp; done) | (simp; omega))), (by subst hp; subst hq; exact ((hS.pick [2, 3, 1] rfl rfl).freeze 2 rfl))⟩
          · intro K hK
            refine ow_storeA hS 1 rfl ts_75 (tmP rfl rfl) (tmA rfl rfl) rfl rfl rfl ?_
            clear hS; intro w hS
            try replace hS := St.nm (M' := [.row _ _ _ _ _, .blk _ _ [_, _, _, _], .blk _ _ [_, _, _, _], _]) hS rfl
            refine hK _ _ ?_; clear hK K
            refine rg_step 5 rfl (by kernel_rfl) (want_0) (oks_drop hS 3 rfl) ?_; intro K hK
            refine ow_make hS Try.underlying22 tz_5 rfl (tmI rfl rfl) (tmI rfl rfl) rfl (by omega) (by simp only [maxLen]; omega) ?_
            clear hS; intro g1_5 w hg1_5 hS
            refine hK _ _ ?_; clear hK K
            refine rg_take 6 rfl rfl (by kernel_rfl) (by kernel_rfl) (by kernel_rfl) (want_0) (fun w hok => x_build (bc_skip (.int .u16 0) <| bc_skip (.int .u16 0) <| bc_skip (.int .u16 0) <| bc_take (tmS rfl rfl) <| bc_nil) (by kernel_rfl)) ?_
            refine rg_step 10 rfl (by kernel_rfl) (want_0) (oks_drop hS 4 rfl) ?_; intro K hK
            refine ow_storeA hS 3 rfl ts_75 (tmP rfl rfl) (tmA rfl rfl) rfl rfl rfl ?_
            clear hS; intro w hS
            try replace hS := St.nm (M' := [.row _ _ _ _ _, .row _ _ _ _ _, .blk _ _ [_, _, _, _], .blk _ _ [_, _, _, _], _]) hS rfl
            refine hK _ _ ?_; clear hK K
            refine rg_done (oks_drop hS 4 rfl) (by kernel_rfl) ?_
            exact then_n ⟨_, rfl, (by repeat (first | exact agree_self | exact agree_refl | refine agree_upd rfl ?_ | refine agree_mix rfl ?_)), g1_7, g1_8, (some ⟨g1_0, 0, none⟩), (some ⟨g1_5, 0, none⟩), (by first | rfl | go_num | exact congrArg (Value.int _) (by first | omega | (simp; done) | (simp; omega))), (by first | rfl | go_num | exact congrArg (Value.int _) (by first | omega | (simp; done) | (simp; omega))), (by subst hp; subst hq; exact ((hS.pick [2, 3, 1] rfl rfl).freeze 2 rfl))⟩
        · intro K hK
          refine ow_make hS Try.underlying22 tz_5 rfl (tmI rfl rfl) (tmI rfl rfl) rfl (by omega) (by simp only [maxLen]; omega) ?_
          clear hS; intro g1_5 w hg1_5 hS
          refine hK _ _ ?_; clear hK K
          refine rg_take 6 rfl rfl (by kernel_rfl) (by kernel_rfl) (by kernel_rfl) (want_0) (fun w hok => x_build (bc_skip (.int .u16 0) <| bc_skip (.int .u16 0) <| bc_skip (.int .u16 0) <| bc_take (tmS rfl rfl) <| bc_nil) (by kernel_rfl)) ?_
          refine rg_step 0 rfl (by kernel_rfl) (want_0) (oks_drop hS 3 rfl) ?_; intro K hK
          refine ow_make hS Try.underlying22 tz_5 rfl (ev_cN 65527) (ev_cN 65527) rfl (by omega) (by simp only [maxLen]; omega) ?_
          clear hS; intro g1_0 w hg1_0 hS
          refine hK _ _ ?_; clear hK K
          refine rg_take 1 rfl rfl (by kernel_rfl) (by kernel_rfl) (by kernel_rfl) (want_0) (fun w hok => x_build (bc_skip (.int .u16 0) <| bc_skip (.int .u16 0) <| bc_skip (.int .u16 0) <| bc_take (tmS rfl rfl) <| bc_nil) (by kernel_rfl)) ?_
          refine rg_step 9 rfl (by kernel_rfl) (want_0) (oks_drop hS 4 rfl) ?_; intro K hK
          refine ow_storeA hS 2 rfl ts_75 (tmP rfl rfl) (tmA rfl rfl) rfl rfl rfl ?_
          clear hS; intro w hS
          try replace hS := St.nm (M' := [.row _ _ _ _ _, .row _ _ _ _ _, .blk _ _ [_, _, _, _], .blk _ _ [_, _, _, _], _]) hS rfl
          refine hK _ _ ?_; clear hK K
          refine rg_step 10 rfl (by kernel_rfl) (want_0) (oks_drop hS 4 rfl) ?_; intro K hK
          refine ow_storeA hS 3 rfl ts_75 (tmP rfl rfl) (tmA rfl rfl) rfl rfl rfl ?_
          clear hS; intro w hS
          try replace hS := St.nm (M' := [.row _ _ _ _ _, .row _ _ _ _ _, .blk _ _ [_, _, _, _], .blk _ _ [_, _, _, _], _]) hS rfl
          refine hK _ _ ?_; clear hK K
          refine rg_done (oks_drop hS 4 rfl) (by kernel_rfl) ?_
          exact then_n ⟨_, rfl, (by repeat (first | exact agree_self | exact agree_refl | refine agree_upd rfl ?_ | refine agree_mix rfl ?_)), g1_7, g1_8, (some ⟨g1_0, 0, none⟩), (some ⟨g1_5, 0, none⟩), (by first | rfl | go_num | exact congrArg (Value.int _) (by first | omega | (simp; done) | (simp; omega))), (by first | rfl | go_num | exact congrArg (Value.int _) (by first | omega | (simp; done) | (simp; omega))), (by subst hp; subst hq; exact ((hS.pick [2, 3, 0] rfl rfl).freeze 2 rfl))⟩
  · clear hS; intro g w hI
    obtain ⟨ba, bb, La, Lb, hs3, hs4, hS⟩ := hI
    refine fr_knowQ (d := 3) hs3 ?_; clear hs3
    refine fr_knowQ (d := 4) hs4 ?_; clear hs4
    refine then_n (hK2 _ _ ?_); clear hK2 K2
    refine wp_seq_k ?_; intro K4 hK4
    refine wlit ?_
    first
     | refine wl_v (x_loadA (cs := [_, _, _, _]) Try.underlying75 rfl ts_75 (tmP rfl rfl) (rangeB hS.ok 0 rfl rfl)) ?_
     | refine wl_v (x_loadA (cs := [_, _, _, _]) Try.underlying75 rfl ts_75 (tmP rfl rfl) (rangeB hS.ok 1 rfl rfl)) ?_
     | refine wl_v (x_loadA Try.underlying75 rfl (by exact ts_75) (tmP rfl rfl) (rangeVs hS.ok 2 rfl (fun _ => rfl) (by omega))) ?_
    refine wl_e rfl ?_; intro K hK
    refine ow_call Try.func57 rfl rfl (evs_cons (tmA rfl rfl) <| evs_nil) (udp_right_c 0 0 0 La p p _ (by omega)) ?_
    rintro e w ⟨rfl, hk⟩
    refine ⟨_, rfl, ?_⟩
    replace hS := hS.kept hk
    clear hk
    refine hK _ _ ?_; clear hK K
    refine wl_v (x_move (tmB rfl rfl)) ?_
    refine gs_wl (tm (t := 14) rfl) (fun hg2_2 => ?_) (fun hg2_2 => ?_)
    · have hg2_2' := hg2_2; (try simp only [nrm] at hg2_2'); try (exfalso; first | with_reducible exact absurd hg2_2 Bool.false_ne_true | with_reducible exact absurd hg2_2.symm Bool.false_ne_true | omega | (simp at hg2_2; done))
      all_goals
       first
        | refine wl_gv (want_y rfl rfl rfl rfl (by rw [hg2_2]; rfl)) (x_loadA (cs := [_, _, _, _]) Try.underlying75 rfl ts_75 (tmP rfl rfl) (rangeB hS.ok 0 rfl rfl)) ?_
        | refine wl_gv (want_y rfl rfl rfl rfl (by rw [hg2_2]; rfl)) (x_loadA (cs := [_, _, _, _]) Try.underlying75 rfl ts_75 (tmP rfl rfl) (rangeB hS.ok 1 rfl rfl)) ?_
        | refine wl_gv (want_y rfl rfl rfl rfl (by rw [hg2_2]; rfl)) (x_loadA Try.underlying75 rfl (by exact ts_75) (tmP rfl rfl) (rangeVs hS.ok 2 rfl (fun _ => rfl) (by omega))) ?_
       refine wl_g (want_y rfl rfl rfl rfl (by rw [hg2_2]; rfl)) ?_; intro K hK
       refine ow_call Try.func58 rfl rfl (evs_cons (tmA rfl rfl) <| evs_nil) (hby La p _ (by rw [← hmap]; exact viewV hS.ok 2 rfl)) ?_
       rintro e w ⟨Lr, n, c', hn', rfl, hn, hk⟩
       refine ⟨_, rfl, ?_⟩
       replace hS := hS.add hk hn -- +rowr
       clear hn hk
       refine hK _ _ ?_; clear hK K
       refine wl_gv (want_y rfl rfl rfl rfl (by rw [hg2_2]; rfl)) (x_len Try.underlying22 (tmS rfl rfl)) ?_
       refine wl_gv (want_y rfl rfl rfl rfl (by rw [hg2_2]; rfl)) (x_eql (tmI rfl rfl) (ev_cN 65535)) ?_
       refine wl_v (x_pickT (tmB rfl rfl) hg2_2 (tmB rfl rfl)) ?_
       refine wl_v (x_move (tmB rfl rfl)) ?_
       refine gs_wl (tm (t := 20) rfl) (fun hg2_8 => ?_) (fun hg2_8 => ?_)
       · have hg2_8' := hg2_8; (try simp only [nrm] at hg2_8'); try (exfalso; first | with_reducible exact absurd hg2_8 Bool.false_ne_true | with_reducible exact absurd hg2_8.symm Bool.false_ne_true | omega | (simp at hg2_8; done))
         all_goals
          first
           | refine wl_gv (want_y rfl rfl rfl rfl (by rw [hg2_8]; rfl)) (x_loadA (cs := [_, _, _, _]) Try.underlying75 rfl ts_75 (tmP rfl rfl) (rangeB hS.ok 1 rfl rfl)) ?_
           | refine wl_gv (want_y rfl rfl rfl rfl (by rw [hg2_8]; rfl)) (x_loadA (cs := [_, _, _, _]) Try.underlying75 rfl ts_75 (tmP rfl rfl) (rangeB hS.ok 2 rfl rfl)) ?_
           | refine wl_gv (want_y rfl rfl rfl rfl (by rw [hg2_8]; rfl)) (x_loadA Try.underlying75 rfl (by exact ts_75) (tmP rfl rfl) (rangeRs hS.ok 0 rfl (fun _ => rfl) (by omega))) ?_
           | refine wl_gv (want_y rfl rfl rfl rfl (by rw [hg2_8]; rfl)) (x_loadA Try.underlying75 rfl (by exact ts_75) (tmP rfl rfl) (rangeVs hS.ok 3 rfl (fun _ => rfl) (by omega))) ?_
          refine wl_g (want_y rfl rfl rfl rfl (by rw [hg2_8]; rfl)) ?_; intro K hK
          refine ow_call Try.func57 rfl rfl (evs_cons (tmA rfl rfl) <| evs_nil) (udp_right_c 0 0 0 Lb q q _ (by omega)) ?_
          rintro e w ⟨rfl, hk⟩
          refine ⟨_, rfl, ?_⟩
          replace hS := hS.kept hk
          clear hk
          refine hK _ _ ?_; clear hK K
          refine wl_gv (want_y rfl rfl rfl rfl (by rw [hg2_8]; rfl)) (x_not (tmB rfl rfl)) ?_
          refine wl_v (x_pickT (tmB rfl rfl) hg2_8 (tmB rfl rfl)) ?_
          refine wl_v (x_move (tmB rfl rfl)) ?_
          refine gs_wl (tm (t := 25) rfl) (fun hg2_13 => ?_) (fun hg2_13 => ?_)
          · have hg2_13' := hg2_13; (try simp only [nrm] at hg2_13'); try (exfalso; first | with_reducible exact absurd hg2_13 Bool.false_ne_true | with_reducible exact absurd hg2_13.symm Bool.false_ne_true | omega | (simp at hg2_13; done))
            all_goals
             first
              | refine wl_gv (want_y rfl rfl rfl rfl (by rw [hg2_13]; rfl)) (x_loadA (cs := [_, _, _, _]) Try.underlying75 rfl ts_75 (tmP rfl rfl) (rangeB hS.ok 1 rfl rfl)) ?_
              | refine wl_gv (want_y rfl rfl rfl rfl (by rw [hg2_13]; rfl)) (x_loadA (cs := [_, _, _, _]) Try.underlying75 rfl ts_75 (tmP rfl rfl) (rangeB hS.ok 2 rfl rfl)) ?_
              | refine wl_gv (want_y rfl rfl rfl rfl (by rw [hg2_13]; rfl)) (x_loadA Try.underlying75 rfl (by exact ts_75) (tmP rfl rfl) (rangeRs hS.ok 0 rfl (fun _ => rfl) (by omega))) ?_
              | refine wl_gv (want_y rfl rfl rfl rfl (by rw [hg2_13]; rfl)) (x_loadA Try.underlying75 rfl (by exact ts_75) (tmP rfl rfl) (rangeVs hS.ok 3 rfl (fun _ => rfl) (by omega))) ?_
             refine wl_g (want_y rfl rfl rfl rfl (by rw [hg2_13]; rfl)) ?_; intro K hK
             refine ow_call Try.func58 rfl rfl (evs_cons (tmA rfl rfl) <| evs_nil) (udp_nobytes_c 0 0 0 Lb q q _ (by omega) (by omega)) ?_
             rintro e w ⟨rfl, hk⟩
             refine ⟨_, rfl, ?_⟩
             replace hS := hS.kept hk
             clear hk
             refine hK _ _ ?_; clear hK K
             refine wl_gv (want_y rfl rfl rfl rfl (by rw [hg2_13]; rfl)) (x_len Try.underlying22 (tmS rfl rfl)) ?_
             refine wl_gv (want_y rfl rfl rfl rfl (by rw [hg2_13]; rfl)) (x_eql (tmI rfl rfl) (ev_cN 0)) ?_
             refine wl_v (x_pickT (tmB rfl rfl) hg2_13 (tmB rfl rfl)) ?_
             refine wl_v (x_move (tmB rfl rfl)) ?_
             refine gs_wl (tm (t := 31) rfl) (fun hg2_19 => ?_) (fun hg2_19 => ?_)
             · have hg2_19' := hg2_19; (try simp only [nrm] at hg2_19'); try (exfalso; first | with_reducible exact absurd hg2_19 Bool.false_ne_true | with_reducible exact absurd hg2_19.symm Bool.false_ne_true | omega | (simp at hg2_19; done))
               all_goals
                first
                 | refine wl_gv (want_y rfl rfl rfl rfl (by rw [hg2_19]; rfl)) (x_loadA (cs := [_, _, _, _]) Try.underlying75 rfl ts_75 (tmP rfl rfl) (rangeB hS.ok 1 rfl rfl)) ?_
                 | refine wl_gv (want_y rfl rfl rfl rfl (by rw [hg2_19]; rfl)) (x_loadA (cs := [_, _, _, _]) Try.underlying75 rfl ts_75 (tmP rfl rfl) (rangeB hS.ok 2 rfl rfl)) ?_
                 | refine wl_gv (want_y rfl rfl rfl rfl (by rw [hg2_19]; rfl)) (x_loadA Try.underlying75 rfl (by exact ts_75) (tmP rfl rfl) (rangeRs hS.ok 0 rfl (fun _ => rfl) (by omega))) ?_
                 | refine wl_gv (want_y rfl rfl rfl rfl (by rw [hg2_19]; rfl)) (x_loadA Try.underlying75 rfl (by exact ts_75) (tmP rfl rfl) (rangeVs hS.ok 3 rfl (fun _ => rfl) (by omega))) ?_
                refine wl_gv (want_y rfl rfl rfl rfl (by rw [hg2_19]; rfl)) (x_build (bc_skip (.bool false) <| bc_skip (.int .u64 0) <| bc_skip (.int .u64 0) <| bc_nil) (by kernel_rfl)) ?_
                refine wl_gv (want_y rfl rfl rfl rfl (by rw [hg2_19]; rfl)) (x_build (bc_skip (.bool false) <| bc_skip (.int .u64 0) <| bc_skip (.int .u64 0) <| bc_nil) (by kernel_rfl)) ?_
                refine wl_g (want_y rfl rfl rfl rfl (by rw [hg2_19]; rfl)) ?_; intro K hK
                refine ow_call Try.func59 rfl rfl (evs_cons (tmA rfl rfl) <| evs_cons (tmA rfl rfl) <| evs_cons (tmA rfl rfl) <| evs_nil) (udp_nofine_c 0 0 0 Lb q q _ _ _ _ _ _ _ (by omega) (by omega)) ?_
                rintro e w ⟨rfl, hk⟩
                refine ⟨_, rfl, ?_⟩
                replace hS := hS.kept hk
                clear hk
                refine hK _ _ ?_; clear hK K
                refine wl_gv (want_y rfl rfl rfl rfl (by rw [hg2_19]; rfl)) (x_not (tmB rfl rfl)) ?_
                refine wl_v (x_pickT (tmB rfl rfl) hg2_19 (tmB rfl rfl)) ?_
                refine wl_v (x_move (tmB rfl rfl)) ?_
                refine gs_wl (tm (t := 38) rfl) (fun hg2_26 => ?_) (fun hg2_26 => ?_)
                · have hg2_26' := hg2_26; (try simp only [nrm] at hg2_26'); try (exfalso; first | with_reducible exact absurd hg2_26 Bool.false_ne_true | with_reducible exact absurd hg2_26.symm Bool.false_ne_true | omega | (simp at hg2_26; done))
                  all_goals
                   refine wl_g (want_y rfl rfl rfl rfl (by rw [hg2_26]; rfl)) ?_; intro K hK
                   refine ow_call Try.func53 rfl rfl (evs_nil) (law07_awake_c _) ?_
                   rintro e w ⟨rfl, hk⟩
                   refine ⟨_, rfl, ?_⟩
                   replace hS := hS.kept hk
                   clear hk
                   refine hK _ _ ?_; clear hK K
                   refine wl_v (x_pickT (tmB rfl rfl) hg2_26 (tmB rfl rfl)) ?_
                   refine wl_v (x_assign (tmB rfl rfl)) ?_
                   refine wl_nil ?_
                   refine then_n (hK4 _ _ ?_); clear hK4 K4
                   refine wp_ret ?_
                   refine ret1 rfl (.tmp rfl (show _ = Value.bool _ from rfl)) ?_
                   exact ⟨rfl, hS.kp.below⟩
                have hg2_26' := hg2_26; (try simp only [nrm] at hg2_26'); try (exfalso; first | with_reducible exact absurd hg2_26 Bool.false_ne_true | with_reducible exact absurd hg2_26.symm Bool.false_ne_true | omega | (simp at hg2_26; done))
                all_goals
                 refine wl_s rfl (want_n rfl rfl rfl rfl (by rw [hg2_26]; rfl)) ?_
                 refine wl_v (x_pickF (tmB rfl rfl) hg2_26 ev_c) ?_
                 refine wl_v (x_assign (tmB rfl rfl)) ?_
                 refine wl_nil ?_
                 refine then_n (hK4 _ _ ?_); clear hK4 K4
                 refine wp_ret ?_
                 refine ret1 rfl (.tmp rfl (show _ = Value.bool _ from rfl)) ?_
                 exact ⟨rfl, hS.kp.below⟩
             have hg2_19' := hg2_19; (try simp only [nrm] at hg2_19'); try (exfalso; first | with_reducible exact absurd hg2_19 Bool.false_ne_true | with_reducible exact absurd hg2_19.symm Bool.false_ne_true | omega | (simp at hg2_19; done))
             all_goals
              refine wl_s rfl (want_n rfl rfl rfl rfl (by rw [hg2_19]; rfl)) ?_
              refine wl_s rfl (want_n rfl rfl rfl rfl (by rw [hg2_19]; rfl)) ?_
              refine wl_s rfl (want_n rfl rfl rfl rfl (by rw [hg2_19]; rfl)) ?_
              refine wl_s rfl (want_n rfl rfl rfl rfl (by rw [hg2_19]; rfl)) ?_
              refine wl_s rfl (want_n rfl rfl rfl rfl (by rw [hg2_19]; rfl)) ?_
              refine wl_v (x_pickF (tmB rfl rfl) hg2_19 ev_c) ?_
              refine wl_v (x_move (tmB rfl rfl)) ?_
              refine wl_s rfl (want_n rfl rfl rfl rfl rfl) ?_
              refine wl_v (x_pickF (tmB rfl rfl) rfl ev_c) ?_
              refine wl_v (x_assign (tmB rfl rfl)) ?_
              refine wl_nil ?_
              refine then_n (hK4 _ _ ?_); clear hK4 K4
              refine wp_ret ?_
              refine ret1 rfl (.tmp rfl (show _ = Value.bool _ from rfl)) ?_
              exact ⟨rfl, hS.kp.below⟩
          have hg2_13' := hg2_13; (try simp only [nrm] at hg2_13'); try (exfalso; first | with_reducible exact absurd hg2_13 Bool.false_ne_true | with_reducible exact absurd hg2_13.symm Bool.false_ne_true | omega | (simp at hg2_13; done))
          all_goals
           refine wl_s rfl (want_n rfl rfl rfl rfl (by rw [hg2_13]; rfl)) ?_
           refine wl_s rfl (want_n rfl rfl rfl rfl (by rw [hg2_13]; rfl)) ?_
           refine wl_s rfl (want_n rfl rfl rfl rfl (by rw [hg2_13]; rfl)) ?_
           refine wl_s rfl (want_n rfl rfl rfl rfl (by rw [hg2_13]; rfl)) ?_
           refine wl_v (x_pickF (tmB rfl rfl) hg2_13 ev_c) ?_
           refine wl_v (x_move (tmB rfl rfl)) ?_
           refine wl_s rfl (want_n rfl rfl rfl rfl rfl) ?_
           refine wl_s rfl (want_n rfl rfl rfl rfl rfl) ?_
           refine wl_s rfl (want_n rfl rfl rfl rfl rfl) ?_
           refine wl_s rfl (want_n rfl rfl rfl rfl rfl) ?_
           refine wl_s rfl (want_n rfl rfl rfl rfl rfl) ?_
           refine wl_v (x_pickF (tmB rfl rfl) rfl ev_c) ?_
           refine wl_v (x_move (tmB rfl rfl)) ?_
           refine wl_s rfl (want_n rfl rfl rfl rfl rfl) ?_
           refine wl_v (x_pickF (tmB rfl rfl) rfl ev_c) ?_
           refine wl_v (x_assign (tmB rfl rfl)) ?_
           refine wl_nil ?_
           refine then_n (hK4 _ _ ?_); clear hK4 K4
           refine wp_ret ?_
           refine ret1 rfl (.tmp rfl (show _ = Value.bool _ from rfl)) ?_
           exact ⟨rfl, hS.kp.below⟩
       have hg2_8' := hg2_8; (try simp only [nrm] at hg2_8'); try (exfalso; first | with_reducible exact absurd hg2_8 Bool.false_ne_true | with_reducible exact absurd hg2_8.symm Bool.false_ne_true | omega | (simp at hg2_8; done))
       all_goals
        refine wl_s rfl (want_n rfl rfl rfl rfl (by rw [hg2_8]; rfl)) ?_
        refine wl_s rfl (want_n rfl rfl rfl rfl (by rw [hg2_8]; rfl)) ?_
        refine wl_s rfl (want_n rfl rfl rfl rfl (by rw [hg2_8]; rfl)) ?_
        refine wl_v (x_pickF (tmB rfl rfl) hg2_8 ev_c) ?_
        refine wl_v (x_move (tmB rfl rfl)) ?_
        refine wl_s rfl (want_n rfl rfl rfl rfl rfl) ?_
        refine wl_s rfl (want_n rfl rfl rfl rfl rfl) ?_
        refine wl_s rfl (want_n rfl rfl rfl rfl rfl) ?_
        refine wl_s rfl (want_n rfl rfl rfl rfl rfl) ?_
        refine wl_v (x_pickF (tmB rfl rfl) rfl ev_c) ?_
        refine wl_v (x_move (tmB rfl rfl)) ?_
        refine wl_s rfl (want_n rfl rfl rfl rfl rfl) ?_
        refine wl_s rfl (want_n rfl rfl rfl rfl rfl) ?_
        refine wl_s rfl (want_n rfl rfl rfl rfl rfl) ?_
        refine wl_s rfl (want_n rfl rfl rfl rfl rfl) ?_
        refine wl_s rfl (want_n rfl rfl rfl rfl rfl) ?_
        refine wl_v (x_pickF (tmB rfl rfl) rfl ev_c) ?_
        refine wl_v (x_move (tmB rfl rfl)) ?_
        refine wl_s rfl (want_n rfl rfl rfl rfl rfl) ?_
        refine wl_v (x_pickF (tmB rfl rfl) rfl ev_c) ?_
        refine wl_v (x_assign (tmB rfl rfl)) ?_
        refine wl_nil ?_
        refine then_n (hK4 _ _ ?_); clear hK4 K4
        refine wp_ret ?_
        refine ret1 rfl (.tmp rfl (show _ = Value.bool _ from rfl)) ?_
        exact ⟨rfl, hS.kp.below⟩
    have hg2_2' := hg2_2; (try simp only [nrm] at hg2_2'); try (exfalso; first | with_reducible exact absurd hg2_2 Bool.false_ne_true | with_reducible exact absurd hg2_2.symm Bool.false_ne_true | omega | (simp at hg2_2; done))
    all_goals
     refine wl_s rfl (want_n rfl rfl rfl rfl (by rw [hg2_2]; rfl)) ?_
     refine wl_s rfl (want_n rfl rfl rfl rfl (by rw [hg2_2]; rfl)) ?_
     refine wl_s rfl (want_n rfl rfl rfl rfl (by rw [hg2_2]; rfl)) ?_
     refine wl_s rfl (want_n rfl rfl rfl rfl (by rw [hg2_2]; rfl)) ?_
     refine wl_v (x_pickF (tmB rfl rfl) hg2_2 ev_c) ?_
     refine wl_v (x_move (tmB rfl rfl)) ?_
     refine wl_s rfl (want_n rfl rfl rfl rfl rfl) ?_
     refine wl_s rfl (want_n rfl rfl rfl rfl rfl) ?_
     refine wl_s rfl (want_n rfl rfl rfl rfl rfl) ?_
     refine wl_v (x_pickF (tmB rfl rfl) rfl ev_c) ?_
     refine wl_v (x_move (tmB rfl rfl)) ?_
     refine wl_s rfl (want_n rfl rfl rfl rfl rfl) ?_
     refine wl_s rfl (want_n rfl rfl rfl rfl rfl) ?_
     refine wl_s rfl (want_n rfl rfl rfl rfl rfl) ?_
     refine wl_s rfl (want_n rfl rfl rfl rfl rfl) ?_
     refine wl_v (x_pickF (tmB rfl rfl) rfl ev_c) ?_
     refine wl_v (x_move (tmB rfl rfl)) ?_
     refine wl_s rfl (want_n rfl rfl rfl rfl rfl) ?_
     refine wl_s rfl (want_n rfl rfl rfl rfl rfl) ?_
     refine wl_s rfl (want_n rfl rfl rfl rfl rfl) ?_
     refine wl_s rfl (want_n rfl rfl rfl rfl rfl) ?_
     refine wl_s rfl (want_n rfl rfl rfl rfl rfl) ?_
     refine wl_v (x_pickF (tmB rfl rfl) rfl ev_c) ?_
     refine wl_v (x_move (tmB rfl rfl)) ?_
     refine wl_s rfl (want_n rfl rfl rfl rfl rfl) ?_
     refine wl_v (x_pickF (tmB rfl rfl) rfl ev_c) ?_
     refine wl_v (x_assign (tmB rfl rfl)) ?_
     refine wl_nil ?_
     refine then_n (hK4 _ _ ?_); clear hK4 K4
     refine wp_ret ?_
     refine ret1 rfl (.tmp rfl (show _ = Value.bool _ from rfl)) ?_
     exact ⟨rfl, hS.kp.below⟩
end UdpLong
end Go.Proofs.Ytfagblcepibliaa
