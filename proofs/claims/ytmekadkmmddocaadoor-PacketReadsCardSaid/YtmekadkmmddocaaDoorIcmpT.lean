/- icmp: sums, Summed, Fine and the references', by contract. Conditions: none but bounds. -/
import Derived.Test.YtmekadkmmddocaaDoorIcmpS
namespace Go.Proofs.YtmekadkmmddocaaDoor
open Go.RowKit

theorem icmpB_len (t c s d : Nat) (l : List Nat) : (icmpB t c s d l).length = 8 + l.length := by simp [icmpB, be_length]; omega
theorem icmpB_bytes (t c s d : Nat) {l : List Nat} (h : Bytes l) : Bytes (icmpB t c s d l) := by
  unfold icmpB
  repeat' (first | assumption | exact Bytes.nil | exact be_bytes _ _ | apply Bytes.append)
def psL (s d : Ad) (n : Nat) : List Nat := cond s.six (ps6 s d 58 (8 + n)) []
theorem psL_bytes (s d : Ad) (n : Nat) : Bytes (psL s d n) := by
  unfold psL
  cases s.six
  · exact Bytes.nil
  · exact ps6_bytes _ _ _ _
theorem psL_six {s d : Ad} {n : Nat} (hs : s.six = true) : psL s d n = ps6 s d 58 (8 + n) := by unfold psL; rw [hs]; rfl
theorem psL_four {s d : Ad} {n : Nat} (hs : s.six = false) : psL s d n = [] := by unfold psL; rw [hs]; rfl
theorem psL_len {s d : Ad} {n : Nat} (h : s.six = d.six) : (psL s d n).length = 40 ∨ (psL s d n).length = 0 := by
  cases hs : s.six
  · right; rw [psL_four hs]; rfl
  · left; rw [psL_six hs, ps6_len hs (h ▸ hs)]
def icS (t c s d : Nat) (l : List Nat) (a b : Ad) : Nat := psum (psL a b l.length) (psL a b l.length).length + psum (icmpB t c s d l) (icmpB t c s d l).length
theorem icS_joined (t c s d : Nat) (l : List Nat) {a b : Ad} (h : a.six = b.six) (ls : List Nat) (hls : ls = psL a b l.length ++ icmpB t c s d l) : psum ls ls.length = icS t c s d l a b := by
  subst hls
  unfold icS
  rw [List.length_append]
  exact psum_append (by rcases psL_len (n := l.length) h with h | h <;> rw [h]) _
theorem rsum_two (A B : Option Addr) (l m : List Nat) (c d : Nat) : rsum [(A, l, c), (B, m, d)] 2 = psum l l.length + psum m m.length := by simp [rsum]
theorem joined_two (A B : Option Addr) (l m : List Nat) (c d : Nat) : joined [(A, l, c), (B, m, d)] = l ++ m := by simp [joined]

set_option maxRecDepth 100000 in
set_option maxHeartbeats 4000000 in
theorem sum_right_rows_c (n : Nat) (A : Option Addr) (c : Nat) (rows : List (Option Addr × List Nat × Nat)) (w0 : World) (hv : View w0 w0.heap.size A (rows.map rowV)) (hr : SeenRows w0 rows) (hb : BytesRows rows) (hl : rows.length = n) (hn4 : n ≤ 1000000) (hj4 : (joined rows).length ≤ 1000000) :
    Calls Tryd.prog 62 #[.slice A n c] w0 fun e w' => e = .returned (.bool (decide (foldN (rsum rows n) = 65535))) ∧ Kp [] w0 w' := by
  have hof := sum_of_c n A c rows w0 hv hr hb hl hn4 hj4
  have hS := St.sv w0
  have hfb := foldN_bd (rsum rows n)
  refine ent (n := 6) Tryd.func62 rfl rfl ?_
  refine wp_seq_k ?_; intro K1 hK1
  refine wlit ?_
  refine wl_v (x_assign ev_c) ?_
  refine wl_nil ?_
  refine then_n (hK1 _ _ ?_); clear hK1 K1
  refine wp_seq_k ?_; intro K2 hK2
  refine wlit ?_
  refine wl_v (x_move (tmS rfl rfl)) ?_
  refine wl_e rfl ?_; intro K hK
  refine ow_call Tryd.func84 rfl rfl (evs_cons (tmS rfl rfl) <| evs_nil) (hof) ?_
  rintro e w ⟨rfl, hk⟩
  refine ⟨_, rfl, ?_⟩
  replace hS := hS.kept hk
  clear hk
  refine hK _ _ ?_; clear hK K
  refine wl_v (x_eql (tmI rfl rfl) (ev_cN 0)) ?_
  refine wl_v (x_assign (tmB rfl rfl)) ?_
  refine wl_nil ?_
  refine then_n (hK2 _ _ ?_); clear hK2 K2
  refine wp_ret ?_
  refine ret1 rfl (.tmp rfl (show _ = Value.bool _ from rfl)) ?_
  refine ⟨ret_bool (decide_eq_decide.2 ?_), hS.kp⟩
  omega

set_option maxRecDepth 100000 in
set_option maxHeartbeats 8000000 in
theorem icmp_pseudo_c (t c s d : Nat) (A : Option Addr) (n k : Nat) (a b : Ad) (w0 : World) (h6 : a.six = b.six) (hla : adLim a) (hlb : adLim b) (hn : n ≤ 900000) :
    Calls Tryd.prog 103 #[.agg (msgV t c s d A n k).toArray, .agg a.V.toArray, .agg b.V.toArray] w0 fun e w' => ∃ A' m c', m = (psL a b n).length ∧ e = .returned (.slice A' m c') ∧ New w0 w' (.row (.slice A' m c') 5 1 m ((psL a b n).map u8v)) ∧ Kp [] w0 w' := by
  have hS := St.sv w0
  refine ent (n := 17) Tryd.func103 rfl rfl ?_
  refine wp_seq_k ?_; intro K1 hK1
  refine wlit ?_
  refine wl_e rfl ?_; intro K hK
  refine ow_box hS (tmA rfl rfl) rfl ?_
  clear hS; intro g0_0 w hg0_0 hS
  refine hK _ _ ?_; clear hK K
  refine wl_e rfl ?_; intro K hK
  refine ow_box hS (tmA rfl rfl) rfl ?_
  clear hS; intro g0_1 w hg0_1 hS
  refine hK _ _ ?_; clear hK K
  refine wl_e rfl ?_; intro K hK
  refine ow_box hS (tmA rfl rfl) rfl ?_
  clear hS; intro g0_2 w hg0_2 hS
  refine hK _ _ ?_; clear hK K
  refine wl_v (x_assign ev_c) ?_
  refine wl_nil ?_
  refine then_n (hK1 _ _ ?_); clear hK1 K1
  refine wp_seq_k ?_; intro K2 hK2
  refine wp_seq_k ?_; intro K3 hK3
  refine wlit ?_
  refine wl_v (x_fa 0 Tryd.underlying26 rfl rfl ts_4 (tmP rfl rfl)) ?_
  refine wl_v (x_load Tryd.underlying4 rfl (tmP rfl rfl) (cellB hS.ok 1 rfl rfl)) ?_
  refine wl_v (x_not (tmB rfl rfl)) ?_
  refine wl_nil ?_
  refine then_n (hK3 _ _ ?_); clear hK3 K3
  refine cnd (tm rfl) (fun hc0 => ?_) (fun hc0 => ?_)
  · skip
    all_goals
     try simp only [nrm] at hc0
     refine wp_seq_k ?_; intro K4 hK4
     refine wlit ?_
     refine wl_v (x_assign ev_c) ?_
     refine wl_nil ?_
     refine then_n (hK4 _ _ ?_); clear hK4 K4
     refine wp_ret ?_
     refine then_r ?_
     refine ret1 rfl (.tmp rfl (show _ = Value.slice _ _ _ from rfl)) ?_
     first
       | (rw [psL_six (by simpa using hc0)]
          exact ⟨_, _, _, hm1, rfl, hS.new 0 rfl rfl, hS.kp⟩)
       | (rw [psL_four (by simpa using hc0)]
          exact ⟨_, _, _, rfl, rfl, ⟨World.ownsRow_nil _ 0 _ 1, rfl, fun g hg => by cases hg⟩, hS.kp⟩)
  all_goals
   try simp only [nrm] at hc0
   refine wp_skip ?_
   refine then_n (hK2 _ _ ?_); clear hK2 K2
   refine wp_seq_k ?_; intro K5 hK5
   refine wlit ?_
   refine wl_v (x_loadA (cs := [_, _, _]) Tryd.underlying26 rfl ts_26 (tmP rfl rfl) (rangeB hS.ok 1 rfl rfl)) ?_
   refine wl_v (x_loadA (cs := [_, _, _]) Tryd.underlying26 rfl ts_26 (tmP rfl rfl) (rangeB hS.ok 0 rfl rfl)) ?_
   refine wl_v (x_fa 4 Tryd.underlying36 rfl rfl ts_22 (tmP rfl rfl)) ?_
   refine wl_v (x_load Tryd.underlying22 rfl (tmP rfl rfl) (cellB hS.ok 2 rfl rfl)) ?_
   refine wl_v (x_len Tryd.underlying22 (tmS rfl rfl)) ?_
   refine wl_v (x_addN (ev_cN 8) (tmI rfl rfl) (fit_i64 (by omega))) ?_
   refine wl_e rfl ?_; intro K hK
   refine ow_call Tryd.func100 rfl rfl (evs_cons (tmA rfl rfl) <| evs_cons (tmA rfl rfl) <| evs_cons (ev_cN 58) <| evs_cons (tmI rfl rfl) <| evs_nil) (ip6_pseudo6_c a b 58 (8 + n) _ (by simpa using hc0) (by rw [← h6]; simpa using hc0) hla hlb (by omega) (by omega)) ?_
   rintro e w ⟨A1, m1, c1, hm1, rfl, hn1, hk⟩
   refine ⟨_, rfl, ?_⟩
   replace hS := hS.add hk hn1 -- +rowa
   clear hn1 hk
   refine hK _ _ ?_; clear hK K
   refine wl_v (x_assign (tmS rfl rfl)) ?_
   refine wl_nil ?_
   refine then_n (hK5 _ _ ?_); clear hK5 K5
   refine wp_ret ?_
   refine ret1 rfl (.tmp rfl (show _ = Value.slice _ _ _ from rfl)) ?_
   first
     | (rw [psL_six (by simpa using hc0)]
        exact ⟨_, _, _, hm1, rfl, hS.new 0 rfl rfl, hS.kp⟩)
     | (rw [psL_four (by simpa using hc0)]
        exact ⟨_, _, _, rfl, rfl, ⟨World.ownsRow_nil _ 0 _ 1, rfl, fun g hg => by cases hg⟩, hS.kp⟩)

set_option maxRecDepth 100000 in
set_option maxHeartbeats 8000000 in
theorem icmp_fine_c (t c s d : Nat) (A : Option Addr) (n k : Nat) (l : List Nat) (a b : Ad) (w0 : World) (hv : View w0 w0.heap.size A (l.map u8v)) (hl : l.length = n) (hb : Bytes l) (h6 : a.six = b.six) (hla : adLim a) (hlb : adLim b) (hn4 : n ≤ 900000) (h1 : t ≤ 255) (h2 : c ≤ 255) (h3 : s ≤ 65535) (h4 : d ≤ 4294967295) :
    Calls Tryd.prog 96 #[.agg (msgV t c s d A n k).toArray, .agg a.V.toArray, .agg b.V.toArray] w0 fun e w' => e = .returned (.bool (decide (foldN (icS t c s d l a b) = 65535))) ∧ Kp [] w0 w' := by
  have hS := (St.sv w0).vcons rfl hv
  have hpl := psL_len (n := n) h6
  have hbl := icmpB_len t c s d l
  refine ent (n := 15) Tryd.func96 rfl rfl ?_
  refine wp_seq_k ?_; intro K1 hK1
  refine wlit ?_
  refine wl_e rfl ?_; intro K hK
  refine ow_box hS (tmA rfl rfl) rfl ?_
  clear hS; intro g0_0 w hg0_0 hS
  refine hK _ _ ?_; clear hK K
  refine wl_e rfl ?_; intro K hK
  refine ow_box hS (tmA rfl rfl) rfl ?_
  clear hS; intro g0_1 w hg0_1 hS
  refine hK _ _ ?_; clear hK K
  refine wl_e rfl ?_; intro K hK
  refine ow_box hS (tmA rfl rfl) rfl ?_
  clear hS; intro g0_2 w hg0_2 hS
  refine hK _ _ ?_; clear hK K
  refine wl_v (x_assign ev_c) ?_
  refine wl_nil ?_
  refine then_n (hK1 _ _ ?_); clear hK1 K1
  refine wp_seq_k ?_; intro K2 hK2
  refine rg_startk 0 hS mixed_ ?_
  clear hS; intro w hS
  refine rg_take 0 rfl rfl (by kernel_rfl) (by kernel_rfl) (by kernel_rfl) (want_0) (fun w hok => x_loadA (cs := [_, _, _, _, _]) Tryd.underlying36 rfl ts_36 (tmP rfl rfl) (rangeB hok 2 rfl rfl)) ?_
  refine rg_take 1 rfl rfl (by kernel_rfl) (by kernel_rfl) (by kernel_rfl) (want_0) (fun w hok => x_loadA (cs := [_, _, _]) Tryd.underlying26 rfl ts_26 (tmP rfl rfl) (rangeB hok 1 rfl rfl)) ?_
  refine rg_take 2 rfl rfl (by kernel_rfl) (by kernel_rfl) (by kernel_rfl) (want_0) (fun w hok => x_loadA (cs := [_, _, _]) Tryd.underlying26 rfl ts_26 (tmP rfl rfl) (rangeB hok 0 rfl rfl)) ?_
  refine rg_take 4 rfl rfl (by kernel_rfl) (by kernel_rfl) (by kernel_rfl) (want_0) (fun w hok => x_loadA (cs := [_, _, _, _, _]) Tryd.underlying36 rfl ts_36 (tmP rfl rfl) (rangeB hok 2 rfl rfl)) ?_
  refine rg_step 3 rfl (by kernel_rfl) (want_0) (oks_drop hS 0 rfl) ?_; intro K hK
  refine ow_call Tryd.func103 rfl rfl (evs_cons (tmA rfl rfl) <| evs_cons (tmA rfl rfl) <| evs_cons (tmA rfl rfl) <| evs_nil) (icmp_pseudo_c t c s d A n k a b _ h6 hla hlb hn4) ?_
  rintro e w ⟨A2, m2, c2, hm2, rfl, hn, hk⟩
  refine ⟨_, rfl, ?_⟩
  subst hm2
  replace hS := hS.add hk hn -- +rowp
  clear hn hk
  refine hK _ _ ?_; clear hK K
  refine rg_step 5 rfl (by kernel_rfl) (want_0) (oks_drop hS 1 rfl) ?_; intro K hK
  refine ow_call Tryd.func104 rfl rfl (evs_cons (tmA rfl rfl) <| evs_nil) (icmp_bytes_c t c s d A n k l _ (viewV hS.ok 4 rfl) hl hn4 h1 h2 h3 h4) ?_
  rintro e w ⟨A3, m3, c3, hm3, rfl, hn, hk⟩
  refine ⟨_, rfl, ?_⟩
  obtain rfl : m3 = (icmpB t c s d l).length := by rw [icmpB_len]; omega
  replace hS := hS.add hk hn -- +rowb
  clear hn hk
  refine hK _ _ ?_; clear hK K
  refine rg_step 6 rfl (by kernel_rfl) (want_0) (oks_drop hS 2 rfl) ?_; intro K hK
  refine ow_build hS Tryd.underlying110 tz_22 (bc_take (tmS rfl rfl) <| bc_take (tmS rfl rfl) <| bc_nil) rfl rfl (by kernel_rfl) ?_
  clear hS; intro g1_6 w hg1_6 hS
  refine hK _ _ ?_; clear hK K
  refine rg_step 7 rfl (by kernel_rfl) (want_0) (oks_drop hS 3 rfl) ?_; intro K hK
  refine ow_call Tryd.func62 rfl rfl (evs_cons (tmS rfl rfl) <| evs_nil) (sum_right_rows_c 2 _ _ [(A2, psL a b n, c2), (A3, icmpB t c s d l, c3)] _ (viewB hS.ok 0 rfl) (seen_cons (viewR hS.ok 2 rfl) <| seen_cons (viewR hS.ok 1 rfl) seen_nil) (brows_cons (psL_bytes _ _ _) <| brows_cons (icmpB_bytes _ _ _ _ hb) brows_nil) rfl (by omega) (by rw [joined_two, List.length_append]; omega)) ?_
  rintro e w ⟨rfl, hk⟩
  refine ⟨_, rfl, ?_⟩
  rw [rsum_two]
  replace hS := hS.kept hk
  clear hk
  refine hK _ _ ?_; clear hK K
  refine rg_take 8 rfl rfl (by kernel_rfl) (by kernel_rfl) (by kernel_rfl) (want_0) (fun w hok => x_assign (tmB rfl rfl)) ?_
  refine rg_done (oks_drop hS 3 rfl) (by kernel_rfl) ?_
  refine then_n (hK2 _ _ ?_); clear hK2 K2
  refine wp_ret ?_
  refine ret1 rfl (.tmp rfl (show _ = Value.bool _ from rfl)) ?_
  unfold icS
  rw [hl]
  exact ⟨rfl, hS.kp⟩

end Go.Proofs.YtmekadkmmddocaaDoor
