/- tunnel: Right, Wrap, the law's to and awake, by contract. Conditions: none but bounds. -/
import Derived.Test.YtilgolflpdpfnaaTunC
import Derived.Test.YtilgolflpdpfnaaIp4M
import Derived.Test.YtilgolflpdpfnaaIp6B
namespace Go.Proofs.Ytilgolflpdpfnaa
open Go.RowKit
theorem ad6_of {l : List Nat} {p : Nat} {a : Ad} (h : (l.drop p).take 16 = adB a) (h6 : a.six = true) (hl : adLim a) : ad6 l p = a := by
  unfold ad6
  rw [h]
  obtain ⟨six, high, low⟩ := a
  have h6' : six = true := h6
  subst h6'
  have l1 : high ≤ 18446744073709551615 := hl.1
  have l2 : low ≤ 18446744073709551615 := hl.2
  have e1 : getN (adB ⟨true, high, low⟩) 0 8 = high % 256 ^ 8 := getN_at (P := []) (Q := be low 8) rfl rfl
  have e2 : getN (adB ⟨true, high, low⟩) 8 8 = low % 256 ^ 8 := getN_at (P := be high 8) (Q := []) (by rw [List.append_nil]; rfl) (be_length _ _)
  rw [e1, e2, Nat.mod_eq_of_lt (by omega), Nat.mod_eq_of_lt (by omega)]
theorem hd6_read {cl lb k nx hp : Nat} {s d : Ad} {x pp : List Nat} (q1 : cl < 256) (q4 : nx < 256) (q5 : hp < 256) (hls : adLim s) (hld : adLim d) (r1 : lb ≤ 1048575) (rk : k ≤ 65535) (hs : s.six = true) (hd : d.six = true) (hpp : pp = hd6B cl lb k nx hp s d ++ x) :
    getN pp 0 4 = hd6F cl lb ∧ getN pp 4 2 = k ∧ getN pp 6 1 = nx ∧ getN pp 7 1 = hp ∧ ad6 pp 8 = s ∧ ad6 pp 24 = d ∧ pp.drop 40 = x := by
  have hFb : hd6F cl lb ≤ 4294967295 := by unfold hd6F; omega
  have hns := adN_six hs
  have hnd := adN_six hd
  have b1 := getN_at (l := pp) (v := hd6F cl lb) (s := 4) (k := 0) (P := []) (Q := be k 2 ++ be nx 1 ++ be hp 1 ++ adB s ++ adB d ++ x) (by rw [hpp]; simp only [hd6B, List.append_assoc]) rfl
  have b2 := getN_at (l := pp) (v := k) (s := 2) (k := 4) (P := [] ++ be (hd6F cl lb) 4) (Q := be nx 1 ++ be hp 1 ++ adB s ++ adB d ++ x) (by rw [hpp]; simp only [hd6B, List.append_assoc]) (by simp [be_length])
  have b3 := getN_at (l := pp) (v := nx) (s := 1) (k := 6) (P := [] ++ be (hd6F cl lb) 4 ++ be k 2) (Q := be hp 1 ++ adB s ++ adB d ++ x) (by rw [hpp]; simp only [hd6B, List.append_assoc]) (by simp [be_length])
  have b4 := getN_at (l := pp) (v := hp) (s := 1) (k := 7) (P := [] ++ be (hd6F cl lb) 4 ++ be k 2 ++ be nx 1) (Q := adB s ++ adB d ++ x) (by rw [hpp]; simp only [hd6B, List.append_assoc]) (by simp [be_length])
  have b5 := part_at (l := pp) (o := adB s) (k := 8) (m := 16) (P := [] ++ be (hd6F cl lb) 4 ++ be k 2 ++ be nx 1 ++ be hp 1) (Q := adB d ++ x) (by rw [hpp]; simp only [hd6B, List.append_assoc]) (by simp [be_length]) (by rw [adB_len, hns])
  have b6 := part_at (l := pp) (o := adB d) (k := 24) (m := 16) (P := [] ++ be (hd6F cl lb) 4 ++ be k 2 ++ be nx 1 ++ be hp 1 ++ adB s) (Q := x) (by rw [hpp]; simp only [hd6B, List.append_assoc]) (by simp [be_length, adB_len, hns]) (by rw [adB_len, hnd])
  have b7 := tail_at (l := pp) (o := x) (k := 40) (P := hd6B cl lb k nx hp s d) hpp (hd6B_len hs hd)
  refine ⟨by rw [b1]; omega, by rw [b2]; omega, by rw [b3]; omega, by rw [b4]; omega, ad6_of b5 hs hls, ad6_of b6 hd hld, b7⟩

set_option maxRecDepth 100000 in
set_option maxHeartbeats 4000000 in
theorem to09_c (s d : Ad) (ttl : Nat) (w0 : World) :
    Calls Try.prog 22 #[.agg (wayV s d ttl).toArray] w0 fun e w' => e = .returned (.agg (wayV s d ttl).toArray) ∧ Kp [] w0 w' := by
  have hS := St.sv w0
  refine ent (n := 10) Try.func22 rfl rfl ?_
  refine wp_seq_k ?_; intro K1 hK1
  refine wlit ?_
  refine wl_e rfl ?_; intro K hK
  refine ow_box hS (tmA rfl rfl) rfl ?_
  clear hS; intro g0_0 w hg0_0 hS
  refine hK _ _ ?_; clear hK K
  refine wl_e rfl ?_; intro K hK
  refine ow_alloc hS tz_28 rfl ?_
  clear hS; intro g0_1 w hg0_1 hS
  refine hK _ _ ?_; clear hK K
  refine wl_nil ?_
  refine then_n (hK1 _ _ ?_); clear hK1 K1
  refine wp_seq_k ?_; intro K2 hK2
  refine wlit ?_
  refine wl_v (x_fa 0 Try.underlying32 rfl rfl ts_26 (tmP rfl rfl)) ?_
  refine wl_v (x_loadA (cs := [_, _, _]) Try.underlying26 rfl ts_26 (tmP rfl rfl) (rangeB hS.ok 1 rfl rfl)) ?_
  refine wl_v (x_fa 3 Try.underlying32 rfl rfl ts_26 (tmP rfl rfl)) ?_
  refine wl_v (x_loadA (cs := [_, _, _]) Try.underlying26 rfl ts_26 (tmP rfl rfl) (rangeB hS.ok 1 rfl rfl)) ?_
  refine wl_v (x_fa 6 Try.underlying32 rfl rfl ts_5 (tmP rfl rfl)) ?_
  first
   | refine wl_v (x_load Try.underlying5 rfl (tmP rfl rfl) (cellB hS.ok 1 rfl rfl)) ?_
   | refine wl_v (x_load Try.underlying5 rfl (tmP rfl rfl) (cellB hS.ok 1 rfl (getm (by omega)))) ?_
  refine wl_v (x_build (bc_takeL (tmA rfl rfl) <| bc_takeL (tmA rfl rfl) <| bc_take (tmI rfl rfl) <| bc_nil) (by kernel_rfl)) ?_
  refine wl_e rfl ?_; intro K hK
  refine ow_storeA hS 0 rfl ts_28 (tmP rfl rfl) (tmA rfl rfl) rfl rfl rfl ?_
  clear hS; intro w hS
  try replace hS := St.nm (M' := [.blk _ _ [_, _, _, _, _, _, _], .blk _ _ [_, _, _, _, _, _, _], _]) hS rfl
  refine hK _ _ ?_; clear hK K
  refine wl_nil ?_
  refine then_n (hK2 _ _ ?_); clear hK2 K2
  refine wp_ret ?_
  refine ret1 rfl (.cell rfl rfl (load_rowB (cs := [_, _, _, _, _, _, _]) hS.ok 0 rfl Try.underlying28 rfl ts_28 rfl)) ?_
  exact ⟨rfl, hS.kp⟩

set_option maxRecDepth 100000 in
set_option maxHeartbeats 4000000 in
theorem way_right_c (s d : Ad) (ttl : Nat) (w0 : World) (h6 : s.six = d.six) (ht : 0 < ttl) :
    Calls Try.prog 92 #[.agg (wayV s d ttl).toArray] w0 fun e w' => e = .returned (.bool true) ∧ Kp [] w0 w' := by
  have hS := St.sv w0
  obtain ⟨b, sh, sl⟩ := s
  obtain ⟨b', dh, dl⟩ := d
  obtain rfl : b = b' := h6
  refine ent (n := 15) Try.func92 rfl rfl ?_
  refine wp_seq_k ?_; intro K1 hK1
  refine wlit ?_
  refine wl_e rfl ?_; intro K hK
  refine ow_box hS (tmA rfl rfl) rfl ?_
  clear hS; intro g0_0 w hg0_0 hS
  refine hK _ _ ?_; clear hK K
  refine wl_v (x_assign ev_c) ?_
  refine wl_nil ?_
  refine then_n (hK1 _ _ ?_); clear hK1 K1
  refine wp_seq_k ?_; intro K2 hK2
  refine wlit ?_
  refine wl_v (x_fa 0 Try.underlying28 rfl rfl ts_26 (tmP rfl rfl)) ?_
  refine wl_v (x_fa 0 Try.underlying26 rfl rfl ts_4 (tmP rfl rfl)) ?_
  first
   | refine wl_v (x_load Try.underlying4 rfl (tmP rfl rfl) (cellB hS.ok 0 rfl rfl)) ?_
   | refine wl_v (x_load Try.underlying4 rfl (tmP rfl rfl) (cellB hS.ok 0 rfl (getm (by omega)))) ?_
  refine wl_v (x_fa 3 Try.underlying28 rfl rfl ts_26 (tmP rfl rfl)) ?_
  refine wl_v (x_fa 0 Try.underlying26 rfl rfl ts_4 (tmP rfl rfl)) ?_
  first
   | refine wl_v (x_load Try.underlying4 rfl (tmP rfl rfl) (cellB hS.ok 0 rfl rfl)) ?_
   | refine wl_v (x_load Try.underlying4 rfl (tmP rfl rfl) (cellB hS.ok 0 rfl (getm (by omega)))) ?_
  refine wl_v (x_beql Try.underlying4 (tmB rfl rfl) (tmB rfl rfl)) ?_
  refine wl_v (x_move (tmB rfl rfl)) ?_
  refine gs_wls (tm (t := 10) rfl) (fun hg1_7 => ?_) (fun hg1_7 => ?_)
  · exfalso
    simp at hg1_7
  have hg1_7' := hg1_7; (try simp only [nrm] at hg1_7'); try (exfalso; first | with_reducible exact absurd hg1_7 Bool.false_ne_true | with_reducible exact absurd hg1_7.symm Bool.false_ne_true | omega | (simp at hg1_7; done))
  all_goals
   refine wl_gv (want_y rfl rfl rfl rfl (by rw [hg1_7]; rfl)) (x_fa 6 Try.underlying28 rfl rfl ts_5 (tmP rfl rfl)) ?_
   first
    | refine wl_gv (want_y rfl rfl rfl rfl (by rw [hg1_7]; rfl)) (x_load Try.underlying5 rfl (tmP rfl rfl) (cellB hS.ok 0 rfl rfl)) ?_
    | refine wl_gv (want_y rfl rfl rfl rfl (by rw [hg1_7]; rfl)) (x_load Try.underlying5 rfl (tmP rfl rfl) (cellB hS.ok 0 rfl (getm (by omega)))) ?_
   refine wl_gv (want_y rfl rfl rfl rfl (by rw [hg1_7]; rfl)) (x_gtr (tmI rfl rfl) (ev_cN 0)) ?_
   refine wl_v (x_pickT (tmB rfl rfl) hg1_7 (tmB rfl rfl)) ?_
   refine wl_v (x_assign (tmB rfl rfl)) ?_
   refine wl_nil ?_
   refine then_n (hK2 _ _ ?_); clear hK2 K2
   refine wp_ret ?_
   refine ret1 rfl (.tmp rfl (show _ = Value.bool _ from rfl)) ?_
   exact ⟨ret_bool (by simp; try omega), hS.kp⟩

/-- A packet of one of both families that may be wrapped. -/
def Fam (l : List Nat) : Prop := l.length ≠ 0 ∧ (nth l 0 / 16 = 6 ∨ (nth l 0 / 16 = 4 ∧ ∃ x pr ttl s d more off, H4 94 l x pr ttl 0 s d more off))
def famP (l : List Nat) : Nat := cond (decide (sixP l)) 41 4
theorem Fam.ok {l : List Nat} (h : Fam l) : sixE l = 0 := by
  rcases h with ⟨h0, h | ⟨h, _⟩⟩
  · exact (sx6 h0 h).1
  · exact (sx4 h0 h).1
theorem famP_lt (l : List Nat) : famP l < 256 := by unfold famP; cases decide (sixP l) <;> simp
/-- What Wrap gives: a packet that carries l. -/
def WR (s d : Ad) (ttl : Nat) (l : List Nat) : Prop := ∀ (w : World) (A : Option Addr) (c : Nat), View w w.heap.size A (l.map u8v) → l.length ≤ c → Calls Try.prog 26 #[.agg (wayV s d ttl).toArray, .slice A l.length c] w fun e w' => ∃ (r : List Nat) (A' : Option Addr) (n c' : Nat), n = r.length ∧ r.length = l.length + cond d.six 40 20 ∧ Bytes r ∧ Fam r ∧ HU 18 r l (famP l) ttl 0 s d ∧
  e = .returned (.tuple #[.slice A' n c', .int .i64 0]) ∧ New w w' (.row (.slice A' n c') 5 1 n (r.map u8v)) ∧ Kp [] w w'
theorem w4_fam {l r : List Nat} {stay : Bool} {ttl pr sl dl : Nat} (hb : Bytes l) (hl : l.length ≤ 2900) (ht : ttl < 256) (hpr : pr < 256) (hsl : sl < 4294967296) (hdl : dl < 4294967296)
    (hr : r = hd4B 0 (20 + ([] : List Nat).length + l.length) 0 (flN 0 stay false) ttl pr (hd4C 0 (20 + ([] : List Nat).length + l.length) 0 (flN 0 stay false) ttl pr sl dl []) sl dl [] ++ l) :
    r.length = l.length + 20 ∧ Bytes r ∧ Fam r ∧ HU 18 r l pr ttl 0 ⟨false, 0, sl⟩ ⟨false, 0, dl⟩ := by
  have hrl : r.length = 20 + l.length := by rw [hr, List.length_append, hd4B_len]; simp
  have hrb : Bytes r := by rw [hr]; exact (hd4B_bytes _ _ _ _ _ _ _ _ _ Bytes.nil).append hb
  have hgot := hd4B_read 0 0 (flN 0 stay false) ttl pr sl dl [] l (by omega) (by omega) (flN_lt (by omega)) ht hpr hsl hdl (by simp) (by simp) (by simp; omega) r _ rfl hr
  have hf := hgot.form
  have hq : H4 94 r l pr ttl 0 ⟨false, 0, sl⟩ ⟨false, 0, dl⟩ false 0 := fun w A c hv hc => by
    have h := ip4_parse_c r.length A c r w hv rfl hc hrb (by omega) _ _ hf (by simp; omega) hgot.sum
    rw [hgot.g1, hgot.g4, hgot.g6, hgot.g8, hgot.g9, hgot.g10, hgot.g12, hgot.g16, hgot.opt, hgot.load, flN_stay (by omega), flN_more (by omega), flN_off (by omega), show 20 + ([] : List Nat).length - 20 = 0 from rfl, show 20 + ([] : List Nat).length + l.length - (20 + ([] : List Nat).length) = l.length by omega] at h
    exact Calls.mono h fun e w' ⟨O, L, h1, h2, h3, h4⟩ => ⟨0, _, 0, stay, _, O, 0, 0, L, l.length, l.length, rfl, .inr (Nat.le_refl _), by omega, h1, h3, h4⟩
  have h4 : nth r 0 / 16 = 4 := hf.four
  refine ⟨by omega, hrb, ⟨by omega, .inr ⟨h4, l, pr, ttl, _, _, false, 0, hq⟩⟩, ?_⟩
  exact unwrap_c hb (by omega) hpr (by omega) (outer4 hrb (by omega) (by omega) h4 (by omega) hq)
theorem w6_fam {l r : List Nat} {ttl pr : Nat} {s d : Ad} (hb : Bytes l) (hl : l.length ≤ 2900) (ht : ttl < 256) (hpr : pr < 256) (hs6 : s.six = true) (hd6 : d.six = true) (hls : adLim s) (hld : adLim d)
    (hr : r = hd6B 0 0 l.length pr ttl s d ++ l) :
    r.length = l.length + 40 ∧ Bytes r ∧ Fam r ∧ HU 18 r l pr ttl 0 s d := by
  have hrl : r.length = 40 + l.length := by rw [hr, List.length_append, hd6B_len hs6 hd6]
  have hrb : Bytes r := by rw [hr]; exact (hd6B_bytes _ _ _ _ _ _ _).append hb
  obtain ⟨g1, g2, g3, g4, g5, g6, g7⟩ := hd6_read (by omega) hpr ht hls hld (by omega) (by omega) hs6 hd6 hr
  have hf : Ip6Form r r.length l.length := ⟨by omega, by rw [g1]; unfold hd6F; omega, g2, by omega⟩
  have hq : H6 136 r l pr ttl 0 s d := fun w A c hv hc => by
    have h := ip6_parse_c r.length A c r w hv rfl hc hrb (by omega) l.length hf
    rw [g1, g3, g4, g5, g6, g7, List.take_of_length_le (by omega), show hd6F 0 0 / 2 ^ 20 % 256 = 0 from rfl, show hd6F 0 0 % 1048576 = 0 from rfl] at h
    exact Calls.mono h fun e w' ⟨L, h1, h2, h3⟩ => ⟨0, 0, _, L, l.length, l.length, rfl, .inr (Nat.le_refl _), h1, h2, h3⟩
  have h6 : nth r 0 / 16 = 6 := by
    rw [← six_first hrb (by omega)]
    exact hf.six
  refine ⟨by omega, hrb, ⟨by omega, .inl h6⟩, ?_⟩
  exact unwrap_c hb (by omega) hpr (by omega) (outer6 hrb (by omega) (by omega) h6 hq)

set_option maxRecDepth 100000 in
set_option maxHeartbeats 4000000 in
theorem wrap6_c {l : List Nat} {s d : Ad} {ttl : Nat} (hb : Bytes l) (hl : l.length ≤ 2900) (ht0 : 0 < ttl) (ht : ttl < 256) (hs6 : s.six = true) (hd6 : d.six = true) (hls : adLim s) (hld : adLim d) (hF : Fam l) : WR s d ttl l := by
  intro w0 A c hv hc
  have hS := (St.sv w0).vcons rfl hv
  have hP := famP_lt l
  have hw := fun r h => w6_fam (r := r) hb hl ht hP hs6 hd6 hls hld h
  have hrt := fun w => way_right_c s d ttl w (hs6.trans hd6.symm) ht0
  have hpk := fun w hv => ip6_packet_c 0 0 0 (famP l) ttl s d A l.length c l w hv rfl (by omega) hP ht hls hld ⟨by omega, by omega, by omega, hs6, hd6⟩
  have hsx := fun w hv => six_c l.length A c l w hv rfl hb (by omega)
  have hnm := fun w => number_c (decide (sixP l)) w
  obtain ⟨b, sh, sl⟩ := s
  obtain ⟨b', dh, dl⟩ := d
  obtain rfl : b = true := hs6
  obtain rfl : b' = true := hd6
  simp only [hF.ok] at hsx
  change ∀ w, Calls _ _ _ w fun e w' => e = .returned (.int .u8 (famP l : Int)) ∧ _ at hnm
  generalize famP l = P at *
  generalize decide (sixP l) = B at *
  refine ent (n := 67) Try.func26 rfl rfl ?_
  refine wp_seq_k ?_; intro K1 hK1
  refine wlit ?_
  refine wl_e rfl ?_; intro K hK
  refine ow_box hS (tmA rfl rfl) rfl ?_
  clear hS; intro g0_0 w hg0_0 hS
  refine hK _ _ ?_; clear hK K
  refine wl_v (x_assign ev_c) ?_
  refine wl_v (x_assign (ev_cN 0)) ?_
  refine wl_nil ?_
  refine then_n (hK1 _ _ ?_); clear hK1 K1
  refine wp_seq_k ?_; intro K2 hK2
  refine wlit ?_
  refine wl_v (x_move (tmS rfl rfl)) ?_
  refine wl_e rfl ?_; intro K hK
  refine ow_call Try.func20 rfl rfl (evs_cons (tmS rfl rfl) <| evs_nil) (hsx _ (viewV hS.ok 1 rfl)) ?_
  rintro e w ⟨rfl, hk⟩
  refine ⟨_, rfl, ?_⟩
  replace hS := hS.kept hk
  clear hk
  refine hK _ _ ?_; clear hK K
  refine wl_v (x_move (tmT rfl rfl)) ?_
  refine wl_v (x_ext (tmT rfl rfl) rfl) ?_
  refine wl_v (x_ext (tmT rfl rfl) rfl) ?_
  refine wl_v (x_assign (tmB rfl rfl)) ?_
  refine wl_v (x_assign (tmI rfl rfl)) ?_
  refine wl_nil ?_
  refine then_n (hK2 _ _ ?_); clear hK2 K2
  refine wp_seq_k ?_; intro K3 hK3
  refine wp_seq_k ?_; intro K4 hK4
  refine wlit ?_
  refine wl_v (x_move (tmI rfl rfl)) ?_
  refine wl_v (x_neq (tmI rfl rfl) (ev_cN 0)) ?_
  refine wl_nil ?_
  refine then_n (hK4 _ _ ?_); clear hK4 K4
  refine cnd (tm rfl) (fun hc0 => ?_) (fun hc0 => ?_)
  · exfalso
    simp at hc0
  try (exfalso; first | with_reducible exact absurd hc0 Bool.false_ne_true | with_reducible exact absurd hc0.symm Bool.false_ne_true | (simp only [nrm] at hc0; omega) | (simp at hc0; done))
  all_goals
   try simp only [nrm] at hc0
   refine wp_skip ?_
   refine then_n (hK3 _ _ ?_); clear hK3 K3
   refine wp_seq_k ?_; intro K5 hK5
   refine wp_seq_k ?_; intro K6 hK6
   refine wlit ?_
   refine wl_v (x_loadA (cs := [_, _, _, _, _, _, _]) Try.underlying28 rfl ts_28 (tmP rfl rfl) (rangeB hS.ok 0 rfl rfl)) ?_
   refine wl_e rfl ?_; intro K hK
   refine ow_call Try.func92 rfl rfl (evs_cons (tmA rfl rfl) <| evs_nil) (hrt _) ?_
   rintro e w ⟨rfl, hk⟩
   refine ⟨_, rfl, ?_⟩
   replace hS := hS.kept hk
   clear hk
   refine hK _ _ ?_; clear hK K
   refine wl_v (x_not (tmB rfl rfl)) ?_
   refine wl_nil ?_
   refine then_n (hK6 _ _ ?_); clear hK6 K6
   refine cnd (tm rfl) (fun hc1 => ?_) (fun hc1 => ?_)
   · exfalso
     simp at hc1
   try (exfalso; first | with_reducible exact absurd hc1 Bool.false_ne_true | with_reducible exact absurd hc1.symm Bool.false_ne_true | (simp only [nrm] at hc1; omega) | (simp at hc1; done))
   all_goals
    try simp only [nrm] at hc1
    refine wp_skip ?_
    refine then_n (hK5 _ _ ?_); clear hK5 K5
    refine wp_seq_k ?_; intro K7 hK7
    refine wp_seq_k ?_; intro K8 hK8
    refine wlit ?_
    refine wl_v (x_fa 3 Try.underlying28 rfl rfl ts_26 (tmP rfl rfl)) ?_
    refine wl_v (x_fa 0 Try.underlying26 rfl rfl ts_4 (tmP rfl rfl)) ?_
    first
     | refine wl_v (x_load Try.underlying4 rfl (tmP rfl rfl) (cellB hS.ok 0 rfl rfl)) ?_
     | refine wl_v (x_load Try.underlying4 rfl (tmP rfl rfl) (cellB hS.ok 0 rfl (getm (by omega)))) ?_
    refine wl_nil ?_
    refine then_n (hK8 _ _ ?_); clear hK8 K8
    refine cnds (tm rfl) (fun hc2 => ?_) (fun hc2 => ?_)
    · exfalso
      simp at hc2
    try (exfalso; first | with_reducible exact absurd hc2 Bool.false_ne_true | with_reducible exact absurd hc2.symm Bool.false_ne_true | (simp only [nrm] at hc2; omega) | (simp at hc2; done))
    all_goals
     try simp only [nrm] at hc2
     refine wp_seq_k ?_; intro K9 hK9
     refine rg_startk 0 hS mixed_ ?_
     clear hS; intro w hS
     refine rg_take 0 rfl rfl (by kernel_rfl) (by kernel_rfl) (by kernel_rfl) (want_0) (fun w hok => x_move (tmB rfl rfl)) ?_
     refine rg_take 2 rfl rfl (by kernel_rfl) (by kernel_rfl) (by kernel_rfl) (want_0) (fun w hok => x_fa 6 Try.underlying28 rfl rfl ts_5 (tmP rfl rfl)) ?_
     first
      | refine rg_take 3 rfl rfl (by kernel_rfl) (by kernel_rfl) (by kernel_rfl) (want_0) (fun w hok => x_load Try.underlying5 rfl (tmP rfl rfl) (cellB hok 0 rfl rfl)) ?_
      | refine rg_take 3 rfl rfl (by kernel_rfl) (by kernel_rfl) (by kernel_rfl) (want_0) (fun w hok => x_load Try.underlying5 rfl (tmP rfl rfl) (cellB hok 0 rfl (getm (by omega)))) ?_
     refine rg_take 4 rfl rfl (by kernel_rfl) (by kernel_rfl) (by kernel_rfl) (want_0) (fun w hok => x_fa 0 Try.underlying28 rfl rfl ts_26 (tmP rfl rfl)) ?_
     refine rg_take 5 rfl rfl (by kernel_rfl) (by kernel_rfl) (by kernel_rfl) (want_0) (fun w hok => x_loadA (cs := [_, _, _]) Try.underlying26 rfl ts_26 (tmP rfl rfl) (rangeB hok 0 rfl rfl)) ?_
     refine rg_take 6 rfl rfl (by kernel_rfl) (by kernel_rfl) (by kernel_rfl) (want_0) (fun w hok => x_fa 3 Try.underlying28 rfl rfl ts_26 (tmP rfl rfl)) ?_
     refine rg_take 7 rfl rfl (by kernel_rfl) (by kernel_rfl) (by kernel_rfl) (want_0) (fun w hok => x_loadA (cs := [_, _, _]) Try.underlying26 rfl ts_26 (tmP rfl rfl) (rangeB hok 0 rfl rfl)) ?_
     refine rg_take 9 rfl rfl (by kernel_rfl) (by kernel_rfl) (by kernel_rfl) (want_0) (fun w hok => x_move (tmS rfl rfl)) ?_
     refine rg_step 1 rfl (by kernel_rfl) (want_0) (oks_drop hS 0 rfl) ?_; intro K hK
     refine ow_call Try.func86 rfl rfl (evs_cons (tmB rfl rfl) <| evs_nil) (hnm _) ?_
     rintro e w ⟨rfl, hk⟩
     refine ⟨_, rfl, ?_⟩
     replace hS := hS.kept hk
     clear hk
     refine hK _ _ ?_; clear hK K
     refine rg_take 8 rfl rfl (by kernel_rfl) (by kernel_rfl) (by kernel_rfl) (want_0) (fun w hok => x_build (bc_skip (.int .u8 0) <| bc_skip (.int .u32 0) <| bc_skip (.int .i64 0) <| bc_take (tmI rfl rfl) <| bc_take (tmI rfl rfl) <| bc_takeL (tmA rfl rfl) <| bc_takeL (tmA rfl rfl) <| bc_nil) (by kernel_rfl)) ?_
     refine rg_step 10 rfl (by kernel_rfl) (want_0) (oks_drop hS 0 rfl) ?_; intro K hK
     refine ow_call Try.func93 rfl rfl (evs_cons (tmA rfl rfl) <| evs_cons (tmS rfl rfl) <| evs_nil) (hpk _ (viewV hS.ok 1 rfl)) ?_
     rintro e w ⟨A', n, c', hn', rfl, hn, hk⟩
     refine ⟨_, rfl, ?_⟩
     replace hS := hS.add hk hn -- +rowa
     clear hn hk
     refine hK _ _ ?_; clear hK K
     refine rg_take 11 rfl rfl (by kernel_rfl) (by kernel_rfl) (by kernel_rfl) (want_0) (fun w hok => x_ext (tmT rfl rfl) rfl) ?_
     refine rg_take 12 rfl rfl (by kernel_rfl) (by kernel_rfl) (by kernel_rfl) (want_0) (fun w hok => x_ext (tmT rfl rfl) rfl) ?_
     refine rg_take 13 rfl rfl (by kernel_rfl) (by kernel_rfl) (by kernel_rfl) (want_0) (fun w hok => x_assign (tmS rfl rfl)) ?_
     refine rg_take 14 rfl rfl (by kernel_rfl) (by kernel_rfl) (by kernel_rfl) (want_0) (fun w hok => x_assign (tmI rfl rfl)) ?_
     refine rg_done (oks_drop hS 1 rfl) (by kernel_rfl) ?_
     refine then_n (hK9 _ _ ?_); clear hK9 K9
     refine wp_ret ?_
     refine then_r ?_
     refine ret2 rfl (.tmp rfl (show _ = Value.slice _ _ _ from rfl)) (.tmp rfl (show _ = Value.int _ _ from rfl)) ?_
     obtain ⟨w1, w2, w3, w4⟩ := hw _ rfl
     exact ⟨_, A', n, c', by rw [w1, hn']; omega, w1, w2, w3, w4, rfl, hS.new 0 rfl rfl, hS.kp⟩

set_option maxRecDepth 100000 in
set_option maxHeartbeats 4000000 in
theorem wrap46_c {l : List Nat} {sl dl : Nat} {ttl : Nat} (hb : Bytes l) (hl : l.length ≤ 2900) (ht0 : 0 < ttl) (ht : ttl < 256) (hsl : sl < 4294967296) (hdl : dl < 4294967296) (hF : Fam l) (h6 : decide (sixP l) = true) : WR ⟨false, 0, sl⟩ ⟨false, 0, dl⟩ ttl l := by
  intro w0 A c hv hc
  have hS := (St.sv w0).vcons rfl hv
  have hP : famP l = 41 := by unfold famP; rw [h6]; rfl
  have hw := fun r h => w4_fam (r := r) (stay := true) hb hl ht (by omega : 41 < 256) hsl hdl h
  rw [← hP] at hw
  have hrt := fun w => way_right_c ⟨false, 0, sl⟩ ⟨false, 0, dl⟩ ttl w rfl ht0
  have hpk := fun w hv => ip4_packet_c 0 0 0 true false 0 ttl 41 0 sl dl none 0 [] A c l w View.nil_ Bytes.nil hv (by omega) (by omega) ht (by omega) ⟨by simp, by simp, by simp; omega, by simp; omega, by omega, by omega, ⟨.inr ⟨rfl, by show sl ≤ _; omega⟩, rfl⟩, ⟨.inr ⟨rfl, by show dl ≤ _; omega⟩, rfl⟩⟩
  have hsx := fun w hv => six_c l.length A c l w hv rfl hb (by omega)
  have hnm := fun w => number_c true w
  simp only [hF.ok, h6] at hsx
  refine ent (n := 67) Try.func26 rfl rfl ?_
  refine wp_seq_k ?_; intro K1 hK1
  refine wlit ?_
  refine wl_e rfl ?_; intro K hK
  refine ow_box hS (tmA rfl rfl) rfl ?_
  clear hS; intro g0_0 w hg0_0 hS
  refine hK _ _ ?_; clear hK K
  refine wl_v (x_assign ev_c) ?_
  refine wl_v (x_assign (ev_cN 0)) ?_
  refine wl_nil ?_
  refine then_n (hK1 _ _ ?_); clear hK1 K1
  refine wp_seq_k ?_; intro K2 hK2
  refine wlit ?_
  refine wl_v (x_move (tmS rfl rfl)) ?_
  refine wl_e rfl ?_; intro K hK
  refine ow_call Try.func20 rfl rfl (evs_cons (tmS rfl rfl) <| evs_nil) (hsx _ (viewV hS.ok 1 rfl)) ?_
  rintro e w ⟨rfl, hk⟩
  refine ⟨_, rfl, ?_⟩
  replace hS := hS.kept hk
  clear hk
  refine hK _ _ ?_; clear hK K
  refine wl_v (x_move (tmT rfl rfl)) ?_
  refine wl_v (x_ext (tmT rfl rfl) rfl) ?_
  refine wl_v (x_ext (tmT rfl rfl) rfl) ?_
  refine wl_v (x_assign (tmB rfl rfl)) ?_
  refine wl_v (x_assign (tmI rfl rfl)) ?_
  refine wl_nil ?_
  refine then_n (hK2 _ _ ?_); clear hK2 K2
  refine wp_seq_k ?_; intro K3 hK3
  refine wp_seq_k ?_; intro K4 hK4
  refine wlit ?_
  refine wl_v (x_move (tmI rfl rfl)) ?_
  refine wl_v (x_neq (tmI rfl rfl) (ev_cN 0)) ?_
  refine wl_nil ?_
  refine then_n (hK4 _ _ ?_); clear hK4 K4
  refine cnd (tm rfl) (fun hc0 => ?_) (fun hc0 => ?_)
  · exfalso
    simp at hc0
  try (exfalso; first | with_reducible exact absurd hc0 Bool.false_ne_true | with_reducible exact absurd hc0.symm Bool.false_ne_true | (simp only [nrm] at hc0; omega) | (simp at hc0; done))
  all_goals
   try simp only [nrm] at hc0
   refine wp_skip ?_
   refine then_n (hK3 _ _ ?_); clear hK3 K3
   refine wp_seq_k ?_; intro K5 hK5
   refine wp_seq_k ?_; intro K6 hK6
   refine wlit ?_
   refine wl_v (x_loadA (cs := [_, _, _, _, _, _, _]) Try.underlying28 rfl ts_28 (tmP rfl rfl) (rangeB hS.ok 0 rfl rfl)) ?_
   refine wl_e rfl ?_; intro K hK
   refine ow_call Try.func92 rfl rfl (evs_cons (tmA rfl rfl) <| evs_nil) (hrt _) ?_
   rintro e w ⟨rfl, hk⟩
   refine ⟨_, rfl, ?_⟩
   replace hS := hS.kept hk
   clear hk
   refine hK _ _ ?_; clear hK K
   refine wl_v (x_not (tmB rfl rfl)) ?_
   refine wl_nil ?_
   refine then_n (hK6 _ _ ?_); clear hK6 K6
   refine cnd (tm rfl) (fun hc1 => ?_) (fun hc1 => ?_)
   · exfalso
     simp at hc1
   try (exfalso; first | with_reducible exact absurd hc1 Bool.false_ne_true | with_reducible exact absurd hc1.symm Bool.false_ne_true | (simp only [nrm] at hc1; omega) | (simp at hc1; done))
   all_goals
    try simp only [nrm] at hc1
    refine wp_skip ?_
    refine then_n (hK5 _ _ ?_); clear hK5 K5
    refine wp_seq_k ?_; intro K7 hK7
    refine wp_seq_k ?_; intro K8 hK8
    refine wlit ?_
    refine wl_v (x_fa 3 Try.underlying28 rfl rfl ts_26 (tmP rfl rfl)) ?_
    refine wl_v (x_fa 0 Try.underlying26 rfl rfl ts_4 (tmP rfl rfl)) ?_
    first
     | refine wl_v (x_load Try.underlying4 rfl (tmP rfl rfl) (cellB hS.ok 0 rfl rfl)) ?_
     | refine wl_v (x_load Try.underlying4 rfl (tmP rfl rfl) (cellB hS.ok 0 rfl (getm (by omega)))) ?_
    refine wl_nil ?_
    refine then_n (hK8 _ _ ?_); clear hK8 K8
    refine cnd (tm rfl) (fun hc2 => ?_) (fun hc2 => ?_)
    · exfalso
      simp at hc2
    try (exfalso; first | with_reducible exact absurd hc2 Bool.false_ne_true | with_reducible exact absurd hc2.symm Bool.false_ne_true | (simp only [nrm] at hc2; omega) | (simp at hc2; done))
    all_goals
     try simp only [nrm] at hc2
     refine wp_skip ?_
     refine then_n (hK7 _ _ ?_); clear hK7 K7
     refine wp_seq_k ?_; intro K9 hK9
     refine rg_startk 0 hS mixed_ ?_
     clear hS; intro w hS
     refine rg_take 0 rfl rfl (by kernel_rfl) (by kernel_rfl) (by kernel_rfl) (want_0) (fun w hok => x_fa 6 Try.underlying28 rfl rfl ts_5 (tmP rfl rfl)) ?_
     first
      | refine rg_take 1 rfl rfl (by kernel_rfl) (by kernel_rfl) (by kernel_rfl) (want_0) (fun w hok => x_load Try.underlying5 rfl (tmP rfl rfl) (cellB hok 0 rfl rfl)) ?_
      | refine rg_take 1 rfl rfl (by kernel_rfl) (by kernel_rfl) (by kernel_rfl) (want_0) (fun w hok => x_load Try.underlying5 rfl (tmP rfl rfl) (cellB hok 0 rfl (getm (by omega)))) ?_
     refine rg_take 2 rfl rfl (by kernel_rfl) (by kernel_rfl) (by kernel_rfl) (want_0) (fun w hok => x_move (tmB rfl rfl)) ?_
     refine rg_take 4 rfl rfl (by kernel_rfl) (by kernel_rfl) (by kernel_rfl) (want_0) (fun w hok => x_fa 0 Try.underlying28 rfl rfl ts_26 (tmP rfl rfl)) ?_
     refine rg_take 5 rfl rfl (by kernel_rfl) (by kernel_rfl) (by kernel_rfl) (want_0) (fun w hok => x_loadA (cs := [_, _, _]) Try.underlying26 rfl ts_26 (tmP rfl rfl) (rangeB hok 0 rfl rfl)) ?_
     refine rg_take 6 rfl rfl (by kernel_rfl) (by kernel_rfl) (by kernel_rfl) (want_0) (fun w hok => x_fa 3 Try.underlying28 rfl rfl ts_26 (tmP rfl rfl)) ?_
     refine rg_take 7 rfl rfl (by kernel_rfl) (by kernel_rfl) (by kernel_rfl) (want_0) (fun w hok => x_loadA (cs := [_, _, _]) Try.underlying26 rfl ts_26 (tmP rfl rfl) (rangeB hok 0 rfl rfl)) ?_
     refine rg_step2 3 9 rfl rfl (by kernel_rfl) (want_0) (want_0) (oks_drop hS 0 rfl) ?_ ?_
     · intro K hK
       refine ow_call Try.func86 rfl rfl (evs_cons (tmB rfl rfl) <| evs_nil) (hnm _) ?_
       rintro e w ⟨rfl, hk⟩
       refine ⟨_, rfl, ?_⟩
       replace hS := hS.kept hk
       clear hk
       refine hK _ _ ?_; clear hK K
       refine rg_take 8 rfl rfl (by kernel_rfl) (by kernel_rfl) (by kernel_rfl) (want_0) (fun w hok => x_build (bc_skip (.int .u8 0) <| bc_skip (.int .i64 0) <| bc_skip (.int .u16 0) <| bc_take ev_c <| bc_skip (.bool false) <| bc_skip (.int .i64 0) <| bc_take (tmI rfl rfl) <| bc_take (tmI rfl rfl) <| bc_skip (.int .u16 0) <| bc_takeL (tmA rfl rfl) <| bc_takeL (tmA rfl rfl) <| bc_skip (.slice none 0 0) <| bc_nil) (by kernel_rfl)) ?_
       refine rg_step 9 rfl (by kernel_rfl) (want_0) (oks_drop hS 0 rfl) ?_; intro K hK
       refine ow_alloc hS tz_138 rfl ?_
       clear hS; intro g8_9 w hg8_9 hS
       refine hK _ _ ?_; clear hK K
       refine rg_step 10 rfl (by kernel_rfl) (want_0) (oks_drop hS 1 rfl) ?_; intro K hK
       refine ow_storeA hS 0 rfl ts_138 (tmP rfl rfl) (tmA rfl rfl) rfl rfl rfl ?_
       clear hS; intro w hS
       try replace hS := St.nm (M' := [.blk _ _ [_, _, _, _, _, _, _, _, _, _, _, _, _, _, _, _], .blk _ _ [_, _, _, _, _, _, _], .vw _ _]) hS rfl
       refine hK _ _ ?_; clear hK K
       refine rg_done (oks_drop hS 1 rfl) (by kernel_rfl) ?_
       refine then_n (hK9 _ _ ?_); clear hK9 K9
       refine wp_seq_k ?_; intro K10 hK10
       refine wp_seq_k ?_; intro K11 hK11
       refine wlit ?_
       refine wl_v (x_move (tmB rfl rfl)) ?_
       refine wl_v (x_not (tmB rfl rfl)) ?_
       refine wl_nil ?_
       refine then_n (hK11 _ _ ?_); clear hK11 K11
       refine cnd (tm rfl) (fun hc3 => ?_) (fun hc3 => ?_)
       · exfalso
         simp at hc3
       try (exfalso; first | with_reducible exact absurd hc3 Bool.false_ne_true | with_reducible exact absurd hc3.symm Bool.false_ne_true | (simp only [nrm] at hc3; omega) | (simp at hc3; done))
       all_goals
        try simp only [nrm] at hc3
        refine wp_skip ?_
        refine then_n (hK10 _ _ ?_); clear hK10 K10
        refine wp_seq_k ?_; intro K12 hK12
        refine wlit ?_
        refine wl_v (x_loadA (cs := [_, _, _, _, _, _, _, _, _, _, _, _, _, _, _, _]) Try.underlying138 rfl ts_138 (tmP rfl rfl) (rangeB hS.ok 0 rfl rfl)) ?_
        refine wl_v (x_move (tmS rfl rfl)) ?_
        refine wl_e rfl ?_; intro K hK
        refine ow_call Try.func84 rfl rfl (evs_cons (tmA rfl rfl) <| evs_cons (tmS rfl rfl) <| evs_nil) (hpk _ (viewV hS.ok 2 rfl)) ?_
        rintro e w ⟨A', n, c', hn', rfl, hn, hk⟩
        refine ⟨_, rfl, ?_⟩
        replace hS := hS.add hk hn -- +rowa
        clear hn hk
        refine hK _ _ ?_; clear hK K
        refine wl_v (x_ext (tmT rfl rfl) rfl) ?_
        refine wl_v (x_ext (tmT rfl rfl) rfl) ?_
        refine wl_v (x_assign (tmS rfl rfl)) ?_
        refine wl_v (x_assign (tmI rfl rfl)) ?_
        refine wl_nil ?_
        refine then_n (hK12 _ _ ?_); clear hK12 K12
        refine wp_ret ?_
        refine ret2 rfl (.tmp rfl (show _ = Value.slice _ _ _ from rfl)) (.tmp rfl (show _ = Value.int _ _ from rfl)) ?_
        obtain ⟨w1, w2, w3, w4⟩ := hw _ (by rw [hP])
        rw [hP] at w4
        exact ⟨_, A', n, c', by rw [w1, hn']; simp; omega, w1, w2, w3, by rw [hP]; exact w4, rfl, hS.new 0 rfl rfl, hS.kp⟩
     · intro K hK
       refine ow_alloc hS tz_138 rfl ?_
       clear hS; intro g8_9 w hg8_9 hS
       refine hK _ _ ?_; clear hK K
       refine rg_step 3 rfl (by kernel_rfl) (want_0) (oks_drop hS 1 rfl) ?_; intro K hK
       refine ow_call Try.func86 rfl rfl (evs_cons (tmB rfl rfl) <| evs_nil) (hnm _) ?_
       rintro e w ⟨rfl, hk⟩
       refine ⟨_, rfl, ?_⟩
       replace hS := hS.kept hk
       clear hk
       refine hK _ _ ?_; clear hK K
       refine rg_take 8 rfl rfl (by kernel_rfl) (by kernel_rfl) (by kernel_rfl) (want_0) (fun w hok => x_build (bc_skip (.int .u8 0) <| bc_skip (.int .i64 0) <| bc_skip (.int .u16 0) <| bc_take ev_c <| bc_skip (.bool false) <| bc_skip (.int .i64 0) <| bc_take (tmI rfl rfl) <| bc_take (tmI rfl rfl) <| bc_skip (.int .u16 0) <| bc_takeL (tmA rfl rfl) <| bc_takeL (tmA rfl rfl) <| bc_skip (.slice none 0 0) <| bc_nil) (by kernel_rfl)) ?_
       refine rg_step 10 rfl (by kernel_rfl) (want_0) (oks_drop hS 1 rfl) ?_; intro K hK
       refine ow_storeA hS 0 rfl ts_138 (tmP rfl rfl) (tmA rfl rfl) rfl rfl rfl ?_
       clear hS; intro w hS
       try replace hS := St.nm (M' := [.blk _ _ [_, _, _, _, _, _, _, _, _, _, _, _, _, _, _, _], .blk _ _ [_, _, _, _, _, _, _], .vw _ _]) hS rfl
       refine hK _ _ ?_; clear hK K
       refine rg_done (oks_drop hS 1 rfl) (by kernel_rfl) ?_
       refine then_n (hK9 _ _ ?_); clear hK9 K9
       refine wp_seq_k ?_; intro K13 hK13
       refine wp_seq_k ?_; intro K14 hK14
       refine wlit ?_
       refine wl_v (x_move (tmB rfl rfl)) ?_
       refine wl_v (x_not (tmB rfl rfl)) ?_
       refine wl_nil ?_
       refine then_n (hK14 _ _ ?_); clear hK14 K14
       refine cnd (tm rfl) (fun hc3 => ?_) (fun hc3 => ?_)
       · exfalso
         simp at hc3
       try (exfalso; first | with_reducible exact absurd hc3 Bool.false_ne_true | with_reducible exact absurd hc3.symm Bool.false_ne_true | (simp only [nrm] at hc3; omega) | (simp at hc3; done))
       all_goals
        try simp only [nrm] at hc3
        refine wp_skip ?_
        refine then_n (hK13 _ _ ?_); clear hK13 K13
        refine wp_seq_k ?_; intro K15 hK15
        refine wlit ?_
        refine wl_v (x_loadA (cs := [_, _, _, _, _, _, _, _, _, _, _, _, _, _, _, _]) Try.underlying138 rfl ts_138 (tmP rfl rfl) (rangeB hS.ok 0 rfl rfl)) ?_
        refine wl_v (x_move (tmS rfl rfl)) ?_
        refine wl_e rfl ?_; intro K hK
        refine ow_call Try.func84 rfl rfl (evs_cons (tmA rfl rfl) <| evs_cons (tmS rfl rfl) <| evs_nil) (hpk _ (viewV hS.ok 2 rfl)) ?_
        rintro e w ⟨A', n, c', hn', rfl, hn, hk⟩
        refine ⟨_, rfl, ?_⟩
        replace hS := hS.add hk hn -- +rowa
        clear hn hk
        refine hK _ _ ?_; clear hK K
        refine wl_v (x_ext (tmT rfl rfl) rfl) ?_
        refine wl_v (x_ext (tmT rfl rfl) rfl) ?_
        refine wl_v (x_assign (tmS rfl rfl)) ?_
        refine wl_v (x_assign (tmI rfl rfl)) ?_
        refine wl_nil ?_
        refine then_n (hK15 _ _ ?_); clear hK15 K15
        refine wp_ret ?_
        refine ret2 rfl (.tmp rfl (show _ = Value.slice _ _ _ from rfl)) (.tmp rfl (show _ = Value.int _ _ from rfl)) ?_
        obtain ⟨w1, w2, w3, w4⟩ := hw _ (by rw [hP])
        rw [hP] at w4
        exact ⟨_, A', n, c', by rw [w1, hn']; simp; omega, w1, w2, w3, by rw [hP]; exact w4, rfl, hS.new 0 rfl rfl, hS.kp⟩

set_option maxRecDepth 100000 in
set_option maxHeartbeats 4000000 in
theorem wrap44_c {l : List Nat} {sl dl : Nat} {ttl : Nat} (hb : Bytes l) (hl : l.length ≤ 2900) (ht0 : 0 < ttl) (ht : ttl < 256) (hsl : sl < 4294967296) (hdl : dl < 4294967296) (hF : Fam l) (h6 : decide (sixP l) = false) : WR ⟨false, 0, sl⟩ ⟨false, 0, dl⟩ ttl l := by
  intro w0 A c hv hc
  have hS := (St.sv w0).vcons rfl hv
  have hP : famP l = 4 := by unfold famP; rw [h6]; rfl
  have hw := fun stay r h => w4_fam (r := r) (stay := stay) hb hl ht (by omega : 4 < 256) hsl hdl h
  have hrt := fun w => way_right_c ⟨false, 0, sl⟩ ⟨false, 0, dl⟩ ttl w rfl ht0
  have hpk := fun stay w hv => ip4_packet_c 0 0 0 stay false 0 ttl 4 0 sl dl none 0 [] A c l w View.nil_ Bytes.nil hv (by omega) (by omega) ht (by omega) ⟨by simp, by simp, by simp; omega, by simp; omega, by omega, by omega, ⟨.inr ⟨rfl, by show sl ≤ _; omega⟩, rfl⟩, ⟨.inr ⟨rfl, by show dl ≤ _; omega⟩, rfl⟩⟩
  have hsx := fun w hv => six_c l.length A c l w hv rfl hb (by omega)
  have hnm := fun w => number_c false w
  simp only [hF.ok, h6] at hsx
  obtain ⟨hl0, h | ⟨h4, x, pr, tt, s, d, more, off, hp⟩⟩ := hF
  · have := decide_eq_false_iff_not.1 h6
    exact absurd ⟨hl0, h⟩ this
  refine ent (n := 67) Try.func26 rfl rfl ?_
  refine wp_seq_k ?_; intro K1 hK1
  refine wlit ?_
  refine wl_e rfl ?_; intro K hK
  refine ow_box hS (tmA rfl rfl) rfl ?_
  clear hS; intro g0_0 w hg0_0 hS
  refine hK _ _ ?_; clear hK K
  refine wl_v (x_assign ev_c) ?_
  refine wl_v (x_assign (ev_cN 0)) ?_
  refine wl_nil ?_
  refine then_n (hK1 _ _ ?_); clear hK1 K1
  refine wp_seq_k ?_; intro K2 hK2
  refine wlit ?_
  refine wl_v (x_move (tmS rfl rfl)) ?_
  refine wl_e rfl ?_; intro K hK
  refine ow_call Try.func20 rfl rfl (evs_cons (tmS rfl rfl) <| evs_nil) (hsx _ (viewV hS.ok 1 rfl)) ?_
  rintro e w ⟨rfl, hk⟩
  refine ⟨_, rfl, ?_⟩
  replace hS := hS.kept hk
  clear hk
  refine hK _ _ ?_; clear hK K
  refine wl_v (x_move (tmT rfl rfl)) ?_
  refine wl_v (x_ext (tmT rfl rfl) rfl) ?_
  refine wl_v (x_ext (tmT rfl rfl) rfl) ?_
  refine wl_v (x_assign (tmB rfl rfl)) ?_
  refine wl_v (x_assign (tmI rfl rfl)) ?_
  refine wl_nil ?_
  refine then_n (hK2 _ _ ?_); clear hK2 K2
  refine wp_seq_k ?_; intro K3 hK3
  refine wp_seq_k ?_; intro K4 hK4
  refine wlit ?_
  refine wl_v (x_move (tmI rfl rfl)) ?_
  refine wl_v (x_neq (tmI rfl rfl) (ev_cN 0)) ?_
  refine wl_nil ?_
  refine then_n (hK4 _ _ ?_); clear hK4 K4
  refine cnd (tm rfl) (fun hc0 => ?_) (fun hc0 => ?_)
  · exfalso
    simp at hc0
  try (exfalso; first | with_reducible exact absurd hc0 Bool.false_ne_true | with_reducible exact absurd hc0.symm Bool.false_ne_true | (simp only [nrm] at hc0; omega) | (simp at hc0; done))
  all_goals
   try simp only [nrm] at hc0
   refine wp_skip ?_
   refine then_n (hK3 _ _ ?_); clear hK3 K3
   refine wp_seq_k ?_; intro K5 hK5
   refine wp_seq_k ?_; intro K6 hK6
   refine wlit ?_
   refine wl_v (x_loadA (cs := [_, _, _, _, _, _, _]) Try.underlying28 rfl ts_28 (tmP rfl rfl) (rangeB hS.ok 0 rfl rfl)) ?_
   refine wl_e rfl ?_; intro K hK
   refine ow_call Try.func92 rfl rfl (evs_cons (tmA rfl rfl) <| evs_nil) (hrt _) ?_
   rintro e w ⟨rfl, hk⟩
   refine ⟨_, rfl, ?_⟩
   replace hS := hS.kept hk
   clear hk
   refine hK _ _ ?_; clear hK K
   refine wl_v (x_not (tmB rfl rfl)) ?_
   refine wl_nil ?_
   refine then_n (hK6 _ _ ?_); clear hK6 K6
   refine cnd (tm rfl) (fun hc1 => ?_) (fun hc1 => ?_)
   · exfalso
     simp at hc1
   try (exfalso; first | with_reducible exact absurd hc1 Bool.false_ne_true | with_reducible exact absurd hc1.symm Bool.false_ne_true | (simp only [nrm] at hc1; omega) | (simp at hc1; done))
   all_goals
    try simp only [nrm] at hc1
    refine wp_skip ?_
    refine then_n (hK5 _ _ ?_); clear hK5 K5
    refine wp_seq_k ?_; intro K7 hK7
    refine wp_seq_k ?_; intro K8 hK8
    refine wlit ?_
    refine wl_v (x_fa 3 Try.underlying28 rfl rfl ts_26 (tmP rfl rfl)) ?_
    refine wl_v (x_fa 0 Try.underlying26 rfl rfl ts_4 (tmP rfl rfl)) ?_
    first
     | refine wl_v (x_load Try.underlying4 rfl (tmP rfl rfl) (cellB hS.ok 0 rfl rfl)) ?_
     | refine wl_v (x_load Try.underlying4 rfl (tmP rfl rfl) (cellB hS.ok 0 rfl (getm (by omega)))) ?_
    refine wl_nil ?_
    refine then_n (hK8 _ _ ?_); clear hK8 K8
    refine cnd (tm rfl) (fun hc2 => ?_) (fun hc2 => ?_)
    · exfalso
      simp at hc2
    try (exfalso; first | with_reducible exact absurd hc2 Bool.false_ne_true | with_reducible exact absurd hc2.symm Bool.false_ne_true | (simp only [nrm] at hc2; omega) | (simp at hc2; done))
    all_goals
     try simp only [nrm] at hc2
     refine wp_skip ?_
     refine then_n (hK7 _ _ ?_); clear hK7 K7
     refine wp_seq_k ?_; intro K9 hK9
     refine rg_startk 0 hS mixed_ ?_
     clear hS; intro w hS
     refine rg_take 0 rfl rfl (by kernel_rfl) (by kernel_rfl) (by kernel_rfl) (want_0) (fun w hok => x_fa 6 Try.underlying28 rfl rfl ts_5 (tmP rfl rfl)) ?_
     first
      | refine rg_take 1 rfl rfl (by kernel_rfl) (by kernel_rfl) (by kernel_rfl) (want_0) (fun w hok => x_load Try.underlying5 rfl (tmP rfl rfl) (cellB hok 0 rfl rfl)) ?_
      | refine rg_take 1 rfl rfl (by kernel_rfl) (by kernel_rfl) (by kernel_rfl) (want_0) (fun w hok => x_load Try.underlying5 rfl (tmP rfl rfl) (cellB hok 0 rfl (getm (by omega)))) ?_
     refine rg_take 2 rfl rfl (by kernel_rfl) (by kernel_rfl) (by kernel_rfl) (want_0) (fun w hok => x_move (tmB rfl rfl)) ?_
     refine rg_take 4 rfl rfl (by kernel_rfl) (by kernel_rfl) (by kernel_rfl) (want_0) (fun w hok => x_fa 0 Try.underlying28 rfl rfl ts_26 (tmP rfl rfl)) ?_
     refine rg_take 5 rfl rfl (by kernel_rfl) (by kernel_rfl) (by kernel_rfl) (want_0) (fun w hok => x_loadA (cs := [_, _, _]) Try.underlying26 rfl ts_26 (tmP rfl rfl) (rangeB hok 0 rfl rfl)) ?_
     refine rg_take 6 rfl rfl (by kernel_rfl) (by kernel_rfl) (by kernel_rfl) (want_0) (fun w hok => x_fa 3 Try.underlying28 rfl rfl ts_26 (tmP rfl rfl)) ?_
     refine rg_take 7 rfl rfl (by kernel_rfl) (by kernel_rfl) (by kernel_rfl) (want_0) (fun w hok => x_loadA (cs := [_, _, _]) Try.underlying26 rfl ts_26 (tmP rfl rfl) (rangeB hok 0 rfl rfl)) ?_
     refine rg_step2 3 9 rfl rfl (by kernel_rfl) (want_0) (want_0) (oks_drop hS 0 rfl) ?_ ?_
     · intro K hK
       refine ow_call Try.func86 rfl rfl (evs_cons (tmB rfl rfl) <| evs_nil) (hnm _) ?_
       rintro e w ⟨rfl, hk⟩
       refine ⟨_, rfl, ?_⟩
       replace hS := hS.kept hk
       clear hk
       refine hK _ _ ?_; clear hK K
       refine rg_take 8 rfl rfl (by kernel_rfl) (by kernel_rfl) (by kernel_rfl) (want_0) (fun w hok => x_build (bc_skip (.int .u8 0) <| bc_skip (.int .i64 0) <| bc_skip (.int .u16 0) <| bc_take ev_c <| bc_skip (.bool false) <| bc_skip (.int .i64 0) <| bc_take (tmI rfl rfl) <| bc_take (tmI rfl rfl) <| bc_skip (.int .u16 0) <| bc_takeL (tmA rfl rfl) <| bc_takeL (tmA rfl rfl) <| bc_skip (.slice none 0 0) <| bc_nil) (by kernel_rfl)) ?_
       refine rg_step 9 rfl (by kernel_rfl) (want_0) (oks_drop hS 0 rfl) ?_; intro K hK
       refine ow_alloc hS tz_138 rfl ?_
       clear hS; intro g8_9 w hg8_9 hS
       refine hK _ _ ?_; clear hK K
       refine rg_step 10 rfl (by kernel_rfl) (want_0) (oks_drop hS 1 rfl) ?_; intro K hK
       refine ow_storeA hS 0 rfl ts_138 (tmP rfl rfl) (tmA rfl rfl) rfl rfl rfl ?_
       clear hS; intro w hS
       try replace hS := St.nm (M' := [.blk _ _ [_, _, _, _, _, _, _, _, _, _, _, _, _, _, _, _], .blk _ _ [_, _, _, _, _, _, _], .vw _ _]) hS rfl
       refine hK _ _ ?_; clear hK K
       refine rg_done (oks_drop hS 1 rfl) (by kernel_rfl) ?_
       refine then_n (hK9 _ _ ?_); clear hK9 K9
       refine wp_seq_k ?_; intro K10 hK10
       refine wp_seq_k ?_; intro K11 hK11
       refine wlit ?_
       refine wl_v (x_move (tmB rfl rfl)) ?_
       refine wl_v (x_not (tmB rfl rfl)) ?_
       refine wl_nil ?_
       refine then_n (hK11 _ _ ?_); clear hK11 K11
       refine cnds (tm rfl) (fun hc3 => ?_) (fun hc3 => ?_)
       · exfalso
         simp at hc3
       try (exfalso; first | with_reducible exact absurd hc3 Bool.false_ne_true | with_reducible exact absurd hc3.symm Bool.false_ne_true | (simp only [nrm] at hc3; omega) | (simp at hc3; done))
       all_goals
        try simp only [nrm] at hc3
        refine wp_seq_k ?_; intro K12 hK12
        refine wlit ?_
        refine wl_v (x_move (tmS rfl rfl)) ?_
        refine wl_e rfl ?_; intro K hK
        refine ow_call Try.func94 rfl rfl (evs_cons (tmS rfl rfl) <| evs_nil) (hp _ A c (viewV hS.ok 2 rfl) hc) ?_
        rintro e w ⟨tos, len, id_, stay, sum, O, m, co, L, k, c2, hkx, _, hm, rfl, hn, hk⟩
        refine ⟨_, rfl, ?_⟩
        replace hS := hS.addn hk hn -- +vx
        clear hn hk
        refine hK _ _ ?_; clear hK K
        refine wl_v (x_move (tmT rfl rfl)) ?_
        refine wl_v (x_ext (tmT rfl rfl) rfl) ?_
        refine wl_v (x_ext (tmT rfl rfl) rfl) ?_
        refine wl_v (x_ext (tmT rfl rfl) rfl) ?_
        refine wl_e rfl ?_; intro K hK
        refine ow_alloc hS tz_138 rfl ?_
        clear hS; intro g10_6 w hg10_6 hS
        refine hK _ _ ?_; clear hK K
        refine wl_e rfl ?_; intro K hK
        refine ow_storeA hS 0 rfl ts_138 (tmP rfl rfl) (tmA rfl rfl) rfl rfl rfl ?_
        clear hS; intro w hS
        try replace hS := St.nm (M' := [.blk _ _ [_, _, _, _, _, _, _, _, _, _, _, _, _, _, _, _], .vw _ _, .blk _ _ [_, _, _, _, _, _, _, _, _, _, _, _, _, _, _, _], .blk _ _ [_, _, _, _, _, _, _], .vw _ _]) hS rfl
        refine hK _ _ ?_; clear hK K
        refine wl_v (x_assign (tmS rfl rfl)) ?_
        refine wl_v (x_assign (tmI rfl rfl)) ?_
        refine wl_nil ?_
        refine then_n (hK12 _ _ ?_); clear hK12 K12
        refine wp_seq_k ?_; intro K13 hK13
        refine wp_seq_k ?_; intro K14 hK14
        refine wlit ?_
        refine wl_v (x_move (tmI rfl rfl)) ?_
        refine wl_v (x_neq (tmI rfl rfl) (ev_cN 0)) ?_
        refine wl_nil ?_
        refine then_n (hK14 _ _ ?_); clear hK14 K14
        refine cnd (tm rfl) (fun hc4 => ?_) (fun hc4 => ?_)
        · exfalso
          simp at hc4
        try (exfalso; first | with_reducible exact absurd hc4 Bool.false_ne_true | with_reducible exact absurd hc4.symm Bool.false_ne_true | (simp only [nrm] at hc4; omega) | (simp at hc4; done))
        all_goals
         try simp only [nrm] at hc4
         refine wp_skip ?_
         refine then_n (hK13 _ _ ?_); clear hK13 K13
         refine wlit ?_
         refine wl_v (x_fa 3 Try.underlying138 rfl rfl ts_4 (tmP rfl rfl)) ?_
         first
          | refine wl_v (x_load Try.underlying4 rfl (tmP rfl rfl) (cellB hS.ok 0 rfl rfl)) ?_
          | refine wl_v (x_load Try.underlying4 rfl (tmP rfl rfl) (cellB hS.ok 0 rfl (getm (by omega)))) ?_
         refine wl_v (x_fa 3 Try.underlying138 rfl rfl ts_4 (tmP rfl rfl)) ?_
         refine wl_e rfl ?_; intro K hK
         first
          | refine ow_store hS 2 rfl ts_4 (tmP rfl rfl) (tmB rfl rfl) rfl rfl ?_
          | refine ow_storeX hS 2 rfl ts_4 (tmP rfl rfl) (tmB rfl rfl) rfl (by simp; omega) ?_
         clear hS; intro w hS
         try replace hS := St.nm (M' := [.blk _ _ [_, _, _, _, _, _, _, _, _, _, _, _, _, _, _, _], .vw _ _, .blk _ _ [_, _, _, _, _, _, _, _, _, _, _, _, _, _, _, _], .blk _ _ [_, _, _, _, _, _, _], .vw _ _]) hS rfl
         refine hK _ _ ?_; clear hK K
         refine wl_nil ?_
         refine then_n (hK10 _ _ ?_); clear hK10 K10
         refine wp_seq_k ?_; intro K15 hK15
         refine wlit ?_
         refine wl_v (x_loadA (cs := [_, _, _, _, _, _, _, _, _, _, _, _, _, _, _, _]) Try.underlying138 rfl ts_138 (tmP rfl rfl) (rangeB hS.ok 2 rfl rfl)) ?_
         refine wl_v (x_move (tmS rfl rfl)) ?_
         refine wl_e rfl ?_; intro K hK
         refine ow_call Try.func84 rfl rfl (evs_cons (tmA rfl rfl) <| evs_cons (tmS rfl rfl) <| evs_nil) (hpk stay _ (viewV hS.ok 4 rfl)) ?_
         rintro e w ⟨A', n, c', hn', rfl, hn, hk⟩
         refine ⟨_, rfl, ?_⟩
         replace hS := hS.add hk hn -- +rowa
         clear hn hk
         refine hK _ _ ?_; clear hK K
         refine wl_v (x_ext (tmT rfl rfl) rfl) ?_
         refine wl_v (x_ext (tmT rfl rfl) rfl) ?_
         refine wl_v (x_assign (tmS rfl rfl)) ?_
         refine wl_v (x_assign (tmI rfl rfl)) ?_
         refine wl_nil ?_
         refine then_n (hK15 _ _ ?_); clear hK15 K15
         refine wp_ret ?_
         refine ret2 rfl (.tmp rfl (show _ = Value.slice _ _ _ from rfl)) (.tmp rfl (show _ = Value.int _ _ from rfl)) ?_
         obtain ⟨w1, w2, w3, w4⟩ := hw stay _ rfl
         exact ⟨_, A', n, c', by rw [w1, hn']; simp; omega, w1, w2, w3, by rw [hP]; exact w4, rfl, hS.new 0 rfl rfl, hS.kp⟩
     · intro K hK
       refine ow_alloc hS tz_138 rfl ?_
       clear hS; intro g8_9 w hg8_9 hS
       refine hK _ _ ?_; clear hK K
       refine rg_step 3 rfl (by kernel_rfl) (want_0) (oks_drop hS 1 rfl) ?_; intro K hK
       refine ow_call Try.func86 rfl rfl (evs_cons (tmB rfl rfl) <| evs_nil) (hnm _) ?_
       rintro e w ⟨rfl, hk⟩
       refine ⟨_, rfl, ?_⟩
       replace hS := hS.kept hk
       clear hk
       refine hK _ _ ?_; clear hK K
       refine rg_take 8 rfl rfl (by kernel_rfl) (by kernel_rfl) (by kernel_rfl) (want_0) (fun w hok => x_build (bc_skip (.int .u8 0) <| bc_skip (.int .i64 0) <| bc_skip (.int .u16 0) <| bc_take ev_c <| bc_skip (.bool false) <| bc_skip (.int .i64 0) <| bc_take (tmI rfl rfl) <| bc_take (tmI rfl rfl) <| bc_skip (.int .u16 0) <| bc_takeL (tmA rfl rfl) <| bc_takeL (tmA rfl rfl) <| bc_skip (.slice none 0 0) <| bc_nil) (by kernel_rfl)) ?_
       refine rg_step 10 rfl (by kernel_rfl) (want_0) (oks_drop hS 1 rfl) ?_; intro K hK
       refine ow_storeA hS 0 rfl ts_138 (tmP rfl rfl) (tmA rfl rfl) rfl rfl rfl ?_
       clear hS; intro w hS
       try replace hS := St.nm (M' := [.blk _ _ [_, _, _, _, _, _, _, _, _, _, _, _, _, _, _, _], .blk _ _ [_, _, _, _, _, _, _], .vw _ _]) hS rfl
       refine hK _ _ ?_; clear hK K
       refine rg_done (oks_drop hS 1 rfl) (by kernel_rfl) ?_
       refine then_n (hK9 _ _ ?_); clear hK9 K9
       refine wp_seq_k ?_; intro K16 hK16
       refine wp_seq_k ?_; intro K17 hK17
       refine wlit ?_
       refine wl_v (x_move (tmB rfl rfl)) ?_
       refine wl_v (x_not (tmB rfl rfl)) ?_
       refine wl_nil ?_
       refine then_n (hK17 _ _ ?_); clear hK17 K17
       refine cnds (tm rfl) (fun hc3 => ?_) (fun hc3 => ?_)
       · exfalso
         simp at hc3
       try (exfalso; first | with_reducible exact absurd hc3 Bool.false_ne_true | with_reducible exact absurd hc3.symm Bool.false_ne_true | (simp only [nrm] at hc3; omega) | (simp at hc3; done))
       all_goals
        try simp only [nrm] at hc3
        refine wp_seq_k ?_; intro K18 hK18
        refine wlit ?_
        refine wl_v (x_move (tmS rfl rfl)) ?_
        refine wl_e rfl ?_; intro K hK
        refine ow_call Try.func94 rfl rfl (evs_cons (tmS rfl rfl) <| evs_nil) (hp _ A c (viewV hS.ok 2 rfl) hc) ?_
        rintro e w ⟨tos, len, id_, stay, sum, O, m, co, L, k, c2, hkx, _, hm, rfl, hn, hk⟩
        refine ⟨_, rfl, ?_⟩
        replace hS := hS.addn hk hn -- +vx
        clear hn hk
        refine hK _ _ ?_; clear hK K
        refine wl_v (x_move (tmT rfl rfl)) ?_
        refine wl_v (x_ext (tmT rfl rfl) rfl) ?_
        refine wl_v (x_ext (tmT rfl rfl) rfl) ?_
        refine wl_v (x_ext (tmT rfl rfl) rfl) ?_
        refine wl_e rfl ?_; intro K hK
        refine ow_alloc hS tz_138 rfl ?_
        clear hS; intro g10_6 w hg10_6 hS
        refine hK _ _ ?_; clear hK K
        refine wl_e rfl ?_; intro K hK
        refine ow_storeA hS 0 rfl ts_138 (tmP rfl rfl) (tmA rfl rfl) rfl rfl rfl ?_
        clear hS; intro w hS
        try replace hS := St.nm (M' := [.blk _ _ [_, _, _, _, _, _, _, _, _, _, _, _, _, _, _, _], .vw _ _, .blk _ _ [_, _, _, _, _, _, _, _, _, _, _, _, _, _, _, _], .blk _ _ [_, _, _, _, _, _, _], .vw _ _]) hS rfl
        refine hK _ _ ?_; clear hK K
        refine wl_v (x_assign (tmS rfl rfl)) ?_
        refine wl_v (x_assign (tmI rfl rfl)) ?_
        refine wl_nil ?_
        refine then_n (hK18 _ _ ?_); clear hK18 K18
        refine wp_seq_k ?_; intro K19 hK19
        refine wp_seq_k ?_; intro K20 hK20
        refine wlit ?_
        refine wl_v (x_move (tmI rfl rfl)) ?_
        refine wl_v (x_neq (tmI rfl rfl) (ev_cN 0)) ?_
        refine wl_nil ?_
        refine then_n (hK20 _ _ ?_); clear hK20 K20
        refine cnd (tm rfl) (fun hc4 => ?_) (fun hc4 => ?_)
        · exfalso
          simp at hc4
        try (exfalso; first | with_reducible exact absurd hc4 Bool.false_ne_true | with_reducible exact absurd hc4.symm Bool.false_ne_true | (simp only [nrm] at hc4; omega) | (simp at hc4; done))
        all_goals
         try simp only [nrm] at hc4
         refine wp_skip ?_
         refine then_n (hK19 _ _ ?_); clear hK19 K19
         refine wlit ?_
         refine wl_v (x_fa 3 Try.underlying138 rfl rfl ts_4 (tmP rfl rfl)) ?_
         first
          | refine wl_v (x_load Try.underlying4 rfl (tmP rfl rfl) (cellB hS.ok 0 rfl rfl)) ?_
          | refine wl_v (x_load Try.underlying4 rfl (tmP rfl rfl) (cellB hS.ok 0 rfl (getm (by omega)))) ?_
         refine wl_v (x_fa 3 Try.underlying138 rfl rfl ts_4 (tmP rfl rfl)) ?_
         refine wl_e rfl ?_; intro K hK
         first
          | refine ow_store hS 2 rfl ts_4 (tmP rfl rfl) (tmB rfl rfl) rfl rfl ?_
          | refine ow_storeX hS 2 rfl ts_4 (tmP rfl rfl) (tmB rfl rfl) rfl (by simp; omega) ?_
         clear hS; intro w hS
         try replace hS := St.nm (M' := [.blk _ _ [_, _, _, _, _, _, _, _, _, _, _, _, _, _, _, _], .vw _ _, .blk _ _ [_, _, _, _, _, _, _, _, _, _, _, _, _, _, _, _], .blk _ _ [_, _, _, _, _, _, _], .vw _ _]) hS rfl
         refine hK _ _ ?_; clear hK K
         refine wl_nil ?_
         refine then_n (hK16 _ _ ?_); clear hK16 K16
         refine wp_seq_k ?_; intro K21 hK21
         refine wlit ?_
         refine wl_v (x_loadA (cs := [_, _, _, _, _, _, _, _, _, _, _, _, _, _, _, _]) Try.underlying138 rfl ts_138 (tmP rfl rfl) (rangeB hS.ok 2 rfl rfl)) ?_
         refine wl_v (x_move (tmS rfl rfl)) ?_
         refine wl_e rfl ?_; intro K hK
         refine ow_call Try.func84 rfl rfl (evs_cons (tmA rfl rfl) <| evs_cons (tmS rfl rfl) <| evs_nil) (hpk stay _ (viewV hS.ok 4 rfl)) ?_
         rintro e w ⟨A', n, c', hn', rfl, hn, hk⟩
         refine ⟨_, rfl, ?_⟩
         replace hS := hS.add hk hn -- +rowa
         clear hn hk
         refine hK _ _ ?_; clear hK K
         refine wl_v (x_ext (tmT rfl rfl) rfl) ?_
         refine wl_v (x_ext (tmT rfl rfl) rfl) ?_
         refine wl_v (x_assign (tmS rfl rfl)) ?_
         refine wl_v (x_assign (tmI rfl rfl)) ?_
         refine wl_nil ?_
         refine then_n (hK21 _ _ ?_); clear hK21 K21
         refine wp_ret ?_
         refine ret2 rfl (.tmp rfl (show _ = Value.slice _ _ _ from rfl)) (.tmp rfl (show _ = Value.int _ _ from rfl)) ?_
         obtain ⟨w1, w2, w3, w4⟩ := hw stay _ rfl
         exact ⟨_, A', n, c', by rw [w1, hn']; simp; omega, w1, w2, w3, by rw [hP]; exact w4, rfl, hS.new 0 rfl rfl, hS.kp⟩

theorem wrap_c {l : List Nat} {s d : Ad} {ttl : Nat} (hb : Bytes l) (hl : l.length ≤ 2900) (ht0 : 0 < ttl) (ht : ttl < 256) (h6 : s.six = d.six) (hls : adLim s) (hld : adLim d) (hrs : adRight s) (hrd : adRight d) (hF : Fam l) : WR s d ttl l := by
  obtain ⟨b, sh, sl⟩ := s
  obtain ⟨b', dh, dl⟩ := d
  obtain rfl : b = b' := h6
  cases b
  · obtain ⟨rfl, h1⟩ : sh = 0 ∧ sl ≤ 4294967295 := by simpa [adRight] using hrs
    obtain ⟨rfl, h2⟩ : dh = 0 ∧ dl ≤ 4294967295 := by simpa [adRight] using hrd
    cases h : decide (sixP l)
    · exact wrap44_c hb hl ht0 ht (by omega) (by omega) hF h
    · exact wrap46_c hb hl ht0 ht (by omega) (by omega) hF h
  · exact wrap6_c hb hl ht0 ht rfl rfl hls hld hF

set_option maxRecDepth 100000 in
set_option maxHeartbeats 4000000 in
theorem law09_awake_c (w0 : World) :
    Calls Try.prog 17 #[] w0 fun e w' => e = .returned (.bool true) ∧ Kp [] w0 w' := by
  have hS := St.sv w0
  obtain ⟨r, hr⟩ : ∃ r, r = hd4B 0 (20 + ([] : List Nat).length + ([] : List Nat).length) 0 (flN 0 false false) 9 0 (hd4C 0 (20 + ([] : List Nat).length + ([] : List Nat).length) 0 (flN 0 false false) 9 0 0 0 []) 0 0 [] ++ [] := ⟨_, rfl⟩
  obtain ⟨hrl, hrb, hF, _⟩ := w4_fam (l := []) (r := r) (stay := false) (ttl := 9) (pr := 0) (sl := 0) (dl := 0) Bytes.nil (by simp) (by omega) (by omega) (by omega) (by omega) hr
  have hpk := fun w => ip4_packet_c 0 0 0 false false 0 9 0 0 0 0 none 0 [] none 0 [] w View.nil_ Bytes.nil View.nil_ (by omega) (by omega) (by omega) (by omega) (by decide)
  rw [← hr] at hpk
  have hrl' : r.length = 20 := hrl
  have hwr := wrap_c (s := ⟨false, 0, 0⟩) (d := ⟨false, 0, 0⟩) (ttl := 64) hrb (by omega) (by omega) (by omega) rfl ⟨by simp, by simp⟩ ⟨by simp, by simp⟩ (.inr ⟨rfl, by simp⟩) (.inr ⟨rfl, by simp⟩) hF
  clear hr
  refine ent (n := 27) Try.func17 rfl rfl ?_
  refine wp_seq_k ?_; intro K1 hK1
  refine wlit ?_
  refine wl_v (x_assign ev_c) ?_
  refine wl_nil ?_
  refine then_n (hK1 _ _ ?_); clear hK1 K1
  refine wp_seq_k ?_; intro K2 hK2
  refine wlit ?_
  refine wl_v (x_build (bc_skip (.int .u8 0) <| bc_skip (.int .i64 0) <| bc_skip (.int .u16 0) <| bc_skip (.bool false) <| bc_skip (.bool false) <| bc_skip (.int .i64 0) <| bc_take (ev_cN 9) <| bc_skip (.int .u8 0) <| bc_skip (.int .u16 0) <| bc_skipL [.bool false, .int .u64 0, .int .u64 0] <| bc_skipL [.bool false, .int .u64 0, .int .u64 0] <| bc_skip (.slice none 0 0) <| bc_nil) (by kernel_rfl)) ?_
  refine wl_e rfl ?_; intro K hK
  refine ow_call Try.func84 rfl rfl (evs_cons (tmA rfl rfl) <| evs_cons ev_c <| evs_nil) (hpk _) ?_
  rintro e w ⟨A1, n1, c1, hn1, rfl, hn, hk⟩
  refine ⟨_, rfl, ?_⟩
  obtain rfl : n1 = r.length := hn1.trans hrl'.symm
  replace hS := hS.add hk hn -- +rowa
  have hcap := row_cap (hS.rowOk 0 rfl) (by omega)
  clear hn hk
  refine hK _ _ ?_; clear hK K
  refine wl_v (x_move (tmT rfl rfl)) ?_
  refine wl_v (x_ext (tmT rfl rfl) rfl) ?_
  refine wl_v (x_ext (tmT rfl rfl) rfl) ?_
  refine wl_v (x_assign (tmS rfl rfl)) ?_
  refine wl_v (x_assign (tmI rfl rfl)) ?_
  refine wl_nil ?_
  refine then_n (hK2 _ _ ?_); clear hK2 K2
  refine wp_seq_k ?_; intro K3 hK3
  refine wlit ?_
  refine wl_v (x_build (bc_skipL [.bool false, .int .u64 0, .int .u64 0] <| bc_skipL [.bool false, .int .u64 0, .int .u64 0] <| bc_take (ev_cN 64) <| bc_nil) (by kernel_rfl)) ?_
  refine wl_v (x_move (tmS rfl rfl)) ?_
  refine wl_e rfl ?_; intro K hK
  refine ow_call Try.func26 rfl rfl (evs_cons (tmA rfl rfl) <| evs_cons (tmS rfl rfl) <| evs_nil) (hwr _ _ _ (viewR hS.ok 0 rfl) hcap) ?_
  rintro e w ⟨r2, A2, n2, c2, hn2, hr2, _, _, _, rfl, hn, hk⟩
  refine ⟨_, rfl, ?_⟩
  obtain rfl : n2 = 40 := by rw [hn2, hr2, hrl']; rfl
  replace hS := hS.add hk hn -- +rowb
  clear hn hk
  refine hK _ _ ?_; clear hK K
  refine wl_v (x_move (tmT rfl rfl)) ?_
  refine wl_v (x_ext (tmT rfl rfl) rfl) ?_
  refine wl_v (x_ext (tmT rfl rfl) rfl) ?_
  refine wl_v (x_assign (tmS rfl rfl)) ?_
  refine wl_v (x_assign (tmI rfl rfl)) ?_
  refine wl_nil ?_
  refine then_n (hK3 _ _ ?_); clear hK3 K3
  refine wp_seq_k ?_; intro K4 hK4
  refine wlit ?_
  refine wl_v (x_move (tmI rfl rfl)) ?_
  refine wl_v (x_eql (tmI rfl rfl) (ev_cN 0)) ?_
  refine wl_v (x_move (tmB rfl rfl)) ?_
  refine gs_wl (tm (t := 18) rfl) (fun hg3_2 => ?_) (fun hg3_2 => ?_)
  · have hg3_2' := hg3_2; (try simp only [nrm] at hg3_2'); try (exfalso; first | with_reducible exact absurd hg3_2 Bool.false_ne_true | with_reducible exact absurd hg3_2.symm Bool.false_ne_true | omega | (simp at hg3_2; done))
    all_goals
     refine wl_gv (want_y rfl rfl rfl rfl (by rw [hg3_2]; rfl)) (x_move (tmI rfl rfl)) ?_
     refine wl_gv (want_y rfl rfl rfl rfl (by rw [hg3_2]; rfl)) (x_eql (tmI rfl rfl) (ev_cN 0)) ?_
     refine wl_v (x_pickT (tmB rfl rfl) hg3_2 (tmB rfl rfl)) ?_
     refine wl_v (x_move (tmB rfl rfl)) ?_
     refine gs_wl (tm (t := 22) rfl) (fun hg3_6 => ?_) (fun hg3_6 => ?_)
     · have hg3_6' := hg3_6; (try simp only [nrm] at hg3_6'); try (exfalso; first | with_reducible exact absurd hg3_6 Bool.false_ne_true | with_reducible exact absurd hg3_6.symm Bool.false_ne_true | omega | (simp at hg3_6; done))
       all_goals
        refine wl_gv (want_y rfl rfl rfl rfl (by rw [hg3_6]; rfl)) (x_move (tmS rfl rfl)) ?_
        refine wl_gv (want_y rfl rfl rfl rfl (by rw [hg3_6]; rfl)) (x_len Try.underlying22 (tmS rfl rfl)) ?_
        refine wl_gv (want_y rfl rfl rfl rfl (by rw [hg3_6]; rfl)) (x_eql (tmI rfl rfl) (ev_cN 40)) ?_
        refine wl_v (x_pickT (tmB rfl rfl) hg3_6 (tmB rfl rfl)) ?_
        refine wl_v (x_assign (tmB rfl rfl)) ?_
        refine wl_nil ?_
        refine then_n (hK4 _ _ ?_); clear hK4 K4
        refine wp_ret ?_
        refine ret1 rfl (.tmp rfl (show _ = Value.bool _ from rfl)) ?_
        exact ⟨rfl, hS.kp⟩
     have hg3_6' := hg3_6; (try simp only [nrm] at hg3_6'); try (exfalso; first | with_reducible exact absurd hg3_6 Bool.false_ne_true | with_reducible exact absurd hg3_6.symm Bool.false_ne_true | omega | (simp at hg3_6; done))
     all_goals
      refine wl_s rfl (want_n rfl rfl rfl rfl (by rw [hg3_6]; rfl)) ?_
      refine wl_s rfl (want_n rfl rfl rfl rfl (by rw [hg3_6]; rfl)) ?_
      refine wl_s rfl (want_n rfl rfl rfl rfl (by rw [hg3_6]; rfl)) ?_
      refine wl_v (x_pickF (tmB rfl rfl) hg3_6 ev_c) ?_
      refine wl_v (x_assign (tmB rfl rfl)) ?_
      refine wl_nil ?_
      refine then_n (hK4 _ _ ?_); clear hK4 K4
      refine wp_ret ?_
      refine ret1 rfl (.tmp rfl (show _ = Value.bool _ from rfl)) ?_
      exact ⟨rfl, hS.kp⟩
  have hg3_2' := hg3_2; (try simp only [nrm] at hg3_2'); try (exfalso; first | with_reducible exact absurd hg3_2 Bool.false_ne_true | with_reducible exact absurd hg3_2.symm Bool.false_ne_true | omega | (simp at hg3_2; done))
  all_goals
   refine wl_s rfl (want_n rfl rfl rfl rfl (by rw [hg3_2]; rfl)) ?_
   refine wl_s rfl (want_n rfl rfl rfl rfl (by rw [hg3_2]; rfl)) ?_
   refine wl_v (x_pickF (tmB rfl rfl) hg3_2 ev_c) ?_
   refine wl_v (x_move (tmB rfl rfl)) ?_
   refine wl_s rfl (want_n rfl rfl rfl rfl rfl) ?_
   refine wl_s rfl (want_n rfl rfl rfl rfl rfl) ?_
   refine wl_s rfl (want_n rfl rfl rfl rfl rfl) ?_
   refine wl_v (x_pickF (tmB rfl rfl) rfl ev_c) ?_
   refine wl_v (x_assign (tmB rfl rfl)) ?_
   refine wl_nil ?_
   refine then_n (hK4 _ _ ?_); clear hK4 K4
   refine wp_ret ?_
   refine ret1 rfl (.tmp rfl (show _ = Value.bool _ from rfl)) ?_
   exact ⟨rfl, hS.kp⟩
end Go.Proofs.Ytilgolflpdpfnaa
