/- ip4: Bytes, Packet and the references', by contract. Conditions: none but bounds. -/
import Derived.Test.YtcobjneobdihkaaIp4W
namespace Go.Proofs.Ytcobjneobdihkaa
open Go.RowKit

def hd4B (tos len id fl ttl proto ck sl dl : Nat) (o : List Nat) : List Nat := [] ++ be (64 + (20 + o.length) / 4) 1 ++ be tos 1 ++ be len 2 ++ be id 2 ++ be fl 2 ++ be ttl 1 ++ be proto 1 ++ be ck 2 ++ be sl 4 ++ be dl 4 ++ o
def hd4C (tos len id fl ttl proto sl dl : Nat) (o : List Nat) : Nat := 65535 - foldN (psum (hd4B tos len id fl ttl proto 0 sl dl o) (20 + o.length))
theorem hd4B_len (tos len id fl ttl proto ck sl dl : Nat) (o : List Nat) : (hd4B tos len id fl ttl proto ck sl dl o).length = 20 + o.length := by simp [hd4B, be_length]; omega
theorem hd4B_bytes (tos len id fl ttl proto ck sl dl : Nat) {o : List Nat} (ho : Bytes o) : Bytes (hd4B tos len id fl ttl proto ck sl dl o) := by
  unfold hd4B
  repeat' (first | assumption | exact Bytes.nil | exact be_bytes _ _ | apply Bytes.append)
theorem splice_at {P x y Q : List Nat} {p : Nat} (hp : P.length = p) (h : x.length = y.length) : splice (P ++ (x ++ Q)) p y = P ++ (y ++ Q) := by
  subst hp
  unfold splice
  rw [List.take_left, List.drop_append, ← h]
  simp
theorem hd4B_sum (tos len id fl ttl proto ck sl dl : Nat) (o : List Nat) : splice (hd4B tos len id fl ttl proto 0 sl dl o) 10 (be ck 2) = hd4B tos len id fl ttl proto ck sl dl o := by
  have h := splice_at (P := [] ++ be (64 + (20 + o.length) / 4) 1 ++ be tos 1 ++ be len 2 ++ be id 2 ++ be fl 2 ++ be ttl 1 ++ be proto 1) (x := be 0 2) (y := be ck 2) (Q := be sl 4 ++ be dl 4 ++ o) (p := 10) (by simp [be_length]) (by simp [be_length])
  simp only [hd4B, List.append_assoc] at h ⊢
  exact h
set_option maxRecDepth 100000 in
set_option maxHeartbeats 8000000 in
theorem ip4_bytes_c (tos len id : Nat) (stay more : Bool) (off ttl proto sum sl dl : Nat) (O : Option Addr) (c : Nat) (o : List Nat) (w0 : World) (h1 : View w0 w0.heap.size O (o.map u8v)) (hob : Bytes o)
    (q1 : tos < 256) (q3 : id < 65536) (q7 : ttl < 256) (q8 : proto < 256) (hr : hdRight (len : Int) (off : Int) ⟨false, 0, sl⟩ ⟨false, 0, dl⟩ o.length) :
    Calls Try.prog 28 #[.agg (hdV tos (len : Int) id stay more (off : Int) ttl proto sum ⟨false, 0, sl⟩ ⟨false, 0, dl⟩ O o.length c).toArray] w0 fun e w' => ∃ A' n c', n = 20 + o.length ∧ e = .returned (.slice A' n c') ∧ New w0 w' (.row (.slice A' n c') 5 1 n ((hd4B tos len id (flN off stay more) ttl proto (hd4C tos len id (flN off stay more) ttl proto sl dl o) sl dl o).map u8v)) ∧ Kp [] w0 w' := by
  have hS := (St.sv w0).vcons rfl h1
  have hr' := hr
  obtain ⟨r1, r2, r3, r4, r5, r6, ⟨r7, _⟩, ⟨r8, _⟩⟩ := hr'
  have r7' : sl ≤ 4294967295 := by rcases r7 with h | h; cases h; exact h.2
  have r8' : dl ≤ 4294967295 := by rcases r8 with h | h; cases h; exact h.2
  have hls : adLim ⟨false, 0, sl⟩ := ⟨(by show (0 : Nat) ≤ _; omega), (by show sl ≤ _; omega)⟩
  have hld : adLim ⟨false, 0, dl⟩ := ⟨(by show (0 : Nat) ≤ _; omega), (by show dl ≤ _; omega)⟩
  have hfl : flN off stay more ≤ 32767 := by unfold flN; cases stay <;> cases more <;> simp <;> omega
  have hlen := hd4B_len tos len id (flN off stay more) ttl proto 0 sl dl o
  have hby := hd4B_bytes tos len id (flN off stay more) ttl proto 0 sl dl hob
  have hck := foldN_bd (psum (hd4B tos len id (flN off stay more) ttl proto 0 sl dl o) (20 + o.length))
  have h64 : 64 ||| (20 + o.length) / 4 = 64 + (20 + o.length) / 4 := by
    have h2 : 64 + (20 + o.length) / 4 = 64 ||| (20 + o.length) / 4 := Nat.two_pow_add_eq_or_of_lt (i := 6) (b := (20 + o.length) / 4) (by omega) 1
    omega
  have hsum := hd4B_sum tos len id (flN off stay more) ttl proto (hd4C tos len id (flN off stay more) ttl proto sl dl o) sl dl o
  have hB0 : hd4B tos len id (flN off stay more) ttl proto 0 sl dl o = [] ++ be (64 + (20 + o.length) / 4) 1 ++ be tos 1 ++ be len 2 ++ be id 2 ++ be (flN off stay more) 2 ++ be ttl 1 ++ be proto 1 ++ be 0 2 ++ be sl 4 ++ be dl 4 ++ o := rfl
  refine ent (n := 68) Try.func28 rfl rfl ?_
  refine wp_seq_k ?_; intro K1 hK1
  refine wlit ?_
  refine wl_e rfl ?_; intro K hK
  refine ow_box hS (tmA rfl rfl) rfl ?_
  clear hS; intro g0_0 w hg0_0 hS
  refine hK _ _ ?_; clear hK K
  refine wl_v (x_assign ev_c) ?_
  refine wl_nil ?_
  refine then_n (hK1 _ _ ?_); clear hK1 K1
  refine wp_seq_k ?_; intro K2 hK2
  refine wp_seq_k ?_; intro K3 hK3
  refine wlit ?_
  refine wl_v (x_loadA (cs := [_, _, _, _, _, _, _, _, _, _, _, _, _, _, _, _]) Try.underlying64 rfl ts_64 (tmP rfl rfl) (rangeB hS.ok 0 rfl rfl)) ?_
  refine wl_e rfl ?_; intro K hK
  refine ow_call Try.func27 rfl rfl (evs_cons (tmA rfl rfl) <| evs_nil) (ip4_right_c _ _ _ _ _ _ _ _ _ _ _ _ _ _ _ (by omega)) ?_
  rintro e w ⟨rfl, hk⟩
  refine ⟨_, rfl, ?_⟩
  replace hS := hS.kept hk
  clear hk
  refine hK _ _ ?_; clear hK K
  refine wl_v (x_not (tmB rfl rfl)) ?_
  refine wl_nil ?_
  refine then_n (hK3 _ _ ?_); clear hK3 K3
  refine cnd (tm rfl) (fun hc0 => ?_) (fun hc0 => ?_)
  · exfalso
    simp at hc0
    exact hc0 hr
  all_goals
   try simp only [nrm] at hc0
   refine wp_skip ?_
   refine then_n (hK2 _ _ ?_); clear hK2 K2
   refine wp_seq_k ?_; intro K4 hK4
   refine wlit ?_
   refine wl_v (x_loadA (cs := [_, _, _, _, _, _, _, _, _, _, _, _, _, _, _, _]) Try.underlying64 rfl ts_64 (tmP rfl rfl) (rangeB hS.ok 0 rfl rfl)) ?_
   refine wl_e rfl ?_; intro K hK
   refine ow_call Try.func26 rfl rfl (evs_cons (tmA rfl rfl) <| evs_nil) (ip4_size_c _ _ _ _ _ _ _ _ _ _ _ _ _ _ _ (by omega)) ?_
   rintro e w ⟨rfl, hk⟩
   refine ⟨_, rfl, ?_⟩
   replace hS := hS.kept hk
   clear hk
   refine hK _ _ ?_; clear hK K
   refine wl_v (x_quoN (tmI rfl rfl) (ev_cN 4) (by omega) (fit_i64 (by omega))) ?_
   refine wl_v (x_orN (ev_cN 64) (tmI rfl rfl) (fit_i64 (by omega)) (fit_i64 (by omega))) ?_
   refine wl_v (x_convN Try.underlying3 Try.underlying24 (tmI rfl (congrArg (fun q : Nat => Value.int .i64 (q : Int)) h64)) (fit_u64 (by omega))) ?_
   refine wl_e rfl ?_; intro K hK
   refine ow_call Try.func48 rfl rfl (evs_cons ev_c <| evs_cons (tmI rfl rfl) <| evs_cons (ev_cN 1) <| evs_nil) (put_c 0 none 0 [] _ 1 _ View.nil_ rfl (by omega) (by omega) (by omega)) ?_
   rintro e w ⟨g1, rfl, hn, hk⟩
   refine ⟨_, rfl, ?_⟩
   replace hS := hS.add hk hn -- +rowb
   clear hn hk
   refine hK _ _ ?_; clear hK K
   refine wl_v (x_assign (tmS rfl rfl)) ?_
   refine wl_nil ?_
   refine then_n (hK4 _ _ ?_); clear hK4 K4
   refine wp_seq_k ?_; intro K5 hK5
   refine wlit ?_
   refine wl_v (x_move (tmS rfl rfl)) ?_
   refine wl_v (x_fa 0 Try.underlying64 rfl rfl ts_5 (tmP rfl rfl)) ?_
   refine wl_v (x_load Try.underlying5 rfl (tmP rfl rfl) (cellB hS.ok 1 rfl rfl)) ?_
   refine wl_v (x_convN Try.underlying5 Try.underlying24 (tmI rfl rfl) (fit_u64 (by omega))) ?_
   refine wl_e rfl ?_; intro K hK
   refine ow_call Try.func48 rfl rfl (evs_cons (tmS rfl rfl) <| evs_cons (tmI rfl rfl) <| evs_cons (ev_cN 1) <| evs_nil) (put_c _ _ _ _ _ _ _ (viewR hS.ok 0 rfl) (by simp [be_length]) (by omega) (by omega) (by omega)) ?_
   rintro e w ⟨g2, rfl, hn, hk⟩
   refine ⟨_, rfl, ?_⟩
   replace hS := (hS.add hk hn).pick [0, 2, 3] rfl rfl --ents rowb,g0_0,vo
   clear hn hk
   try replace hS := St.nm (M' := [.row _ _ _ _ _, .blk _ _ [_, _, _, _, _, _, _, _, _, _, _, _, _, _, _, _], .vw _ _]) hS rfl
   refine hK _ _ ?_; clear hK K
   refine wl_v (x_assign (tmS rfl rfl)) ?_
   refine wl_nil ?_
   refine then_n (hK5 _ _ ?_); clear hK5 K5
   refine wp_seq_k ?_; intro K6 hK6
   refine wlit ?_
   refine wl_v (x_move (tmS rfl rfl)) ?_
   refine wl_v (x_fa 1 Try.underlying64 rfl rfl ts_3 (tmP rfl rfl)) ?_
   refine wl_v (x_load Try.underlying3 rfl (tmP rfl rfl) (cellB hS.ok 1 rfl rfl)) ?_
   refine wl_v (x_convN Try.underlying3 Try.underlying24 (tmI rfl rfl) (fit_u64 (by omega))) ?_
   refine wl_e rfl ?_; intro K hK
   refine ow_call Try.func48 rfl rfl (evs_cons (tmS rfl rfl) <| evs_cons (tmI rfl rfl) <| evs_cons (ev_cN 2) <| evs_nil) (put_c _ _ _ _ _ _ _ (viewR hS.ok 0 rfl) (by simp [be_length]) (by omega) (by omega) (by omega)) ?_
   rintro e w ⟨g2, rfl, hn, hk⟩
   refine ⟨_, rfl, ?_⟩
   replace hS := (hS.add hk hn).pick [0, 2, 3] rfl rfl --ents rowb,g0_0,vo
   clear hn hk
   try replace hS := St.nm (M' := [.row _ _ _ _ _, .blk _ _ [_, _, _, _, _, _, _, _, _, _, _, _, _, _, _, _], .vw _ _]) hS rfl
   refine hK _ _ ?_; clear hK K
   refine wl_v (x_assign (tmS rfl rfl)) ?_
   refine wl_nil ?_
   refine then_n (hK6 _ _ ?_); clear hK6 K6
   refine wp_seq_k ?_; intro K7 hK7
   refine wlit ?_
   refine wl_v (x_move (tmS rfl rfl)) ?_
   refine wl_v (x_fa 2 Try.underlying64 rfl rfl ts_27 (tmP rfl rfl)) ?_
   refine wl_v (x_load Try.underlying27 rfl (tmP rfl rfl) (cellB hS.ok 1 rfl rfl)) ?_
   refine wl_v (x_convN Try.underlying27 Try.underlying24 (tmI rfl rfl) (fit_u64 (by omega))) ?_
   refine wl_e rfl ?_; intro K hK
   refine ow_call Try.func48 rfl rfl (evs_cons (tmS rfl rfl) <| evs_cons (tmI rfl rfl) <| evs_cons (ev_cN 2) <| evs_nil) (put_c _ _ _ _ _ _ _ (viewR hS.ok 0 rfl) (by simp [be_length]) (by omega) (by omega) (by omega)) ?_
   rintro e w ⟨g2, rfl, hn, hk⟩
   refine ⟨_, rfl, ?_⟩
   replace hS := (hS.add hk hn).pick [0, 2, 3] rfl rfl --ents rowb,g0_0,vo
   clear hn hk
   try replace hS := St.nm (M' := [.row _ _ _ _ _, .blk _ _ [_, _, _, _, _, _, _, _, _, _, _, _, _, _, _, _], .vw _ _]) hS rfl
   refine hK _ _ ?_; clear hK K
   refine wl_v (x_assign (tmS rfl rfl)) ?_
   refine wl_nil ?_
   refine then_n (hK7 _ _ ?_); clear hK7 K7
   refine wp_seq_k ?_; intro K8 hK8
   refine wlit ?_
   refine wl_v (x_move (tmS rfl rfl)) ?_
   refine wl_v (x_loadA (cs := [_, _, _, _, _, _, _, _, _, _, _, _, _, _, _, _]) Try.underlying64 rfl ts_64 (tmP rfl rfl) (rangeB hS.ok 1 rfl rfl)) ?_
   refine wl_e rfl ?_; intro K hK
   refine ow_call Try.func49 rfl rfl (evs_cons (tmA rfl rfl) <| evs_nil) (ip4_flags_c _ _ _ _ _ _ _ _ _ _ _ _ _ _ _ (by omega)) ?_
   rintro e w ⟨rfl, hk⟩
   refine ⟨_, rfl, ?_⟩
   replace hS := hS.kept hk
   clear hk
   refine hK _ _ ?_; clear hK K
   refine wl_e rfl ?_; intro K hK
   refine ow_call Try.func48 rfl rfl (evs_cons (tmS rfl rfl) <| evs_cons (tmI rfl rfl) <| evs_cons (ev_cN 2) <| evs_nil) (put_c _ _ _ _ _ _ _ (viewR hS.ok 0 rfl) (by simp [be_length]) (by omega) (by omega) (by omega)) ?_
   rintro e w ⟨g2, rfl, hn, hk⟩
   refine ⟨_, rfl, ?_⟩
   replace hS := (hS.add hk hn).pick [0, 2, 3] rfl rfl --ents rowb,g0_0,vo
   clear hn hk
   try replace hS := St.nm (M' := [.row _ _ _ _ _, .blk _ _ [_, _, _, _, _, _, _, _, _, _, _, _, _, _, _, _], .vw _ _]) hS rfl
   refine hK _ _ ?_; clear hK K
   refine wl_v (x_assign (tmS rfl rfl)) ?_
   refine wl_nil ?_
   refine then_n (hK8 _ _ ?_); clear hK8 K8
   refine wp_seq_k ?_; intro K9 hK9
   refine wlit ?_
   refine wl_v (x_move (tmS rfl rfl)) ?_
   refine wl_v (x_fa 6 Try.underlying64 rfl rfl ts_5 (tmP rfl rfl)) ?_
   refine wl_v (x_load Try.underlying5 rfl (tmP rfl rfl) (cellB hS.ok 1 rfl rfl)) ?_
   refine wl_v (x_convN Try.underlying5 Try.underlying24 (tmI rfl rfl) (fit_u64 (by omega))) ?_
   refine wl_e rfl ?_; intro K hK
   refine ow_call Try.func48 rfl rfl (evs_cons (tmS rfl rfl) <| evs_cons (tmI rfl rfl) <| evs_cons (ev_cN 1) <| evs_nil) (put_c _ _ _ _ _ _ _ (viewR hS.ok 0 rfl) (by simp [be_length]) (by omega) (by omega) (by omega)) ?_
   rintro e w ⟨g2, rfl, hn, hk⟩
   refine ⟨_, rfl, ?_⟩
   replace hS := (hS.add hk hn).pick [0, 2, 3] rfl rfl --ents rowb,g0_0,vo
   clear hn hk
   try replace hS := St.nm (M' := [.row _ _ _ _ _, .blk _ _ [_, _, _, _, _, _, _, _, _, _, _, _, _, _, _, _], .vw _ _]) hS rfl
   refine hK _ _ ?_; clear hK K
   refine wl_v (x_assign (tmS rfl rfl)) ?_
   refine wl_nil ?_
   refine then_n (hK9 _ _ ?_); clear hK9 K9
   refine wp_seq_k ?_; intro K10 hK10
   refine wlit ?_
   refine wl_v (x_move (tmS rfl rfl)) ?_
   refine wl_v (x_fa 7 Try.underlying64 rfl rfl ts_5 (tmP rfl rfl)) ?_
   refine wl_v (x_load Try.underlying5 rfl (tmP rfl rfl) (cellB hS.ok 1 rfl rfl)) ?_
   refine wl_v (x_convN Try.underlying5 Try.underlying24 (tmI rfl rfl) (fit_u64 (by omega))) ?_
   refine wl_e rfl ?_; intro K hK
   refine ow_call Try.func48 rfl rfl (evs_cons (tmS rfl rfl) <| evs_cons (tmI rfl rfl) <| evs_cons (ev_cN 1) <| evs_nil) (put_c _ _ _ _ _ _ _ (viewR hS.ok 0 rfl) (by simp [be_length]) (by omega) (by omega) (by omega)) ?_
   rintro e w ⟨g2, rfl, hn, hk⟩
   refine ⟨_, rfl, ?_⟩
   replace hS := (hS.add hk hn).pick [0, 2, 3] rfl rfl --ents rowb,g0_0,vo
   clear hn hk
   try replace hS := St.nm (M' := [.row _ _ _ _ _, .blk _ _ [_, _, _, _, _, _, _, _, _, _, _, _, _, _, _, _], .vw _ _]) hS rfl
   refine hK _ _ ?_; clear hK K
   refine wl_v (x_assign (tmS rfl rfl)) ?_
   refine wl_nil ?_
   refine then_n (hK10 _ _ ?_); clear hK10 K10
   refine wp_seq_k ?_; intro K11 hK11
   refine wlit ?_
   refine wl_v (x_move (tmS rfl rfl)) ?_
   refine wl_e rfl ?_; intro K hK
   refine ow_call Try.func48 rfl rfl (evs_cons (tmS rfl rfl) <| evs_cons (ev_cN 0) <| evs_cons (ev_cN 2) <| evs_nil) (put_c _ _ _ _ _ _ _ (viewR hS.ok 0 rfl) (by simp [be_length]) (by omega) (by omega) (by omega)) ?_
   rintro e w ⟨g2, rfl, hn, hk⟩
   refine ⟨_, rfl, ?_⟩
   replace hS := (hS.add hk hn).pick [0, 2, 3] rfl rfl --ents rowb,g0_0,vo
   clear hn hk
   try replace hS := St.nm (M' := [.row _ _ _ _ _, .blk _ _ [_, _, _, _, _, _, _, _, _, _, _, _, _, _, _, _], .vw _ _]) hS rfl
   refine hK _ _ ?_; clear hK K
   refine wl_v (x_assign (tmS rfl rfl)) ?_
   refine wl_nil ?_
   refine then_n (hK11 _ _ ?_); clear hK11 K11
   refine wp_seq_k ?_; intro K12 hK12
   refine wlit ?_
   refine wl_v (x_move (tmS rfl rfl)) ?_
   refine wl_v (x_fa 9 Try.underlying64 rfl rfl ts_26 (tmP rfl rfl)) ?_
   refine wl_v (x_loadA (cs := [_, _, _]) Try.underlying26 rfl ts_26 (tmP rfl rfl) (rangeB hS.ok 1 rfl rfl)) ?_
   refine wl_e rfl ?_; intro K hK
   refine ow_call Try.func50 rfl rfl (evs_cons (tmA rfl rfl) <| evs_nil) (ad_bytes_c _ _ hls) ?_
   rintro e w ⟨A', n', c', hn', rfl, hn, hk⟩
   refine ⟨_, rfl, ?_⟩
   obtain rfl : n' = 4 := hn'
   replace hS := ((hS.add hk hn).freeze 0 rfl).pick [1, 0, 2, 3] rfl rfl --ents rowb,va,g0_0,vo
   clear hn hk
   try replace hS := St.nm (M' := [.row _ _ _ _ _, .vw _ _, .blk _ _ [_, _, _, _, _, _, _, _, _, _, _, _, _, _, _, _], .vw _ _]) hS rfl
   refine hK _ _ ?_; clear hK K
   refine wl_e rfl ?_; intro K hK
   refine ow_appendV hS 0 rfl (viewV hS.ok 1 rfl) Try.underlying22 tz_5 rfl (tmS rfl rfl) (tmS rfl rfl) (by first | exact u8v_one _ | (intro u hu; simp at hu; first | (rcases hu with rfl | rfl <;> rfl) | (obtain ⟨_, _, rfl⟩ := hu; rfl))) ⟨by decide, by first | rfl | (simp; done) | (simp; omega)⟩ (by simp only [maxLen]; omega) (by omega) ?_; clear hS; intro g11_4 cg11_4 w hAg11_4 hCg11_4 hS
   refine hK _ _ ?_; clear hK K
   refine wl_v (x_assign (tmS rfl rfl)) ?_
   refine wl_nil ?_
   rw [← List.map_append] at hS
   replace hS := hS.pick [0, 2, 3] rfl rfl
   try replace hS := St.nm (M' := [.row _ _ _ _ _, .blk _ _ [_, _, _, _, _, _, _, _, _, _, _, _, _, _, _, _], .vw _ _]) hS rfl
   refine then_n (hK12 _ _ ?_); clear hK12 K12
   refine wp_seq_k ?_; intro K13 hK13
   refine wlit ?_
   refine wl_v (x_move (tmS rfl rfl)) ?_
   refine wl_v (x_fa 12 Try.underlying64 rfl rfl ts_26 (tmP rfl rfl)) ?_
   refine wl_v (x_loadA (cs := [_, _, _]) Try.underlying26 rfl ts_26 (tmP rfl rfl) (rangeB hS.ok 1 rfl rfl)) ?_
   refine wl_e rfl ?_; intro K hK
   refine ow_call Try.func50 rfl rfl (evs_cons (tmA rfl rfl) <| evs_nil) (ad_bytes_c _ _ hld) ?_
   rintro e w ⟨A', n', c', hn', rfl, hn, hk⟩
   refine ⟨_, rfl, ?_⟩
   obtain rfl : n' = 4 := hn'
   replace hS := ((hS.add hk hn).freeze 0 rfl).pick [1, 0, 2, 3] rfl rfl --ents rowb,va,g0_0,vo
   clear hn hk
   try replace hS := St.nm (M' := [.row _ _ _ _ _, .vw _ _, .blk _ _ [_, _, _, _, _, _, _, _, _, _, _, _, _, _, _, _], .vw _ _]) hS rfl
   refine hK _ _ ?_; clear hK K
   refine wl_e rfl ?_; intro K hK
   refine ow_appendV hS 0 rfl (viewV hS.ok 1 rfl) Try.underlying22 tz_5 rfl (tmS rfl rfl) (tmS rfl rfl) (by first | exact u8v_one _ | (intro u hu; simp at hu; first | (rcases hu with rfl | rfl <;> rfl) | (obtain ⟨_, _, rfl⟩ := hu; rfl))) ⟨by decide, by first | rfl | (simp; done) | (simp; omega)⟩ (by simp only [maxLen]; omega) (by omega) ?_; clear hS; intro g12_4 cg12_4 w hAg12_4 hCg12_4 hS
   refine hK _ _ ?_; clear hK K
   refine wl_v (x_assign (tmS rfl rfl)) ?_
   refine wl_nil ?_
   rw [← List.map_append] at hS
   replace hS := hS.pick [0, 2, 3] rfl rfl
   try replace hS := St.nm (M' := [.row _ _ _ _ _, .blk _ _ [_, _, _, _, _, _, _, _, _, _, _, _, _, _, _, _], .vw _ _]) hS rfl
   refine then_n (hK13 _ _ ?_); clear hK13 K13
   refine wp_seq_k ?_; intro K14 hK14
   refine wlit ?_
   refine wl_v (x_move (tmS rfl rfl)) ?_
   refine wl_v (x_fa 15 Try.underlying64 rfl rfl ts_22 (tmP rfl rfl)) ?_
   refine wl_v (x_load Try.underlying22 rfl (tmP rfl rfl) (cellB hS.ok 1 rfl rfl)) ?_
   refine wl_e rfl ?_; intro K hK
   refine ow_appendV hS 0 rfl (viewV hS.ok 2 rfl) Try.underlying22 tz_5 rfl (tmS rfl rfl) (tmS rfl rfl) (by first | exact u8v_one _ | (intro u hu; simp at hu; first | (rcases hu with rfl | rfl <;> rfl) | (obtain ⟨_, _, rfl⟩ := hu; rfl))) ⟨by decide, by first | rfl | (simp; done) | (simp; omega)⟩ (by simp only [maxLen]; omega) (by omega) ?_; clear hS; intro g13_3 cg13_3 w hAg13_3 hCg13_3 hS
   refine hK _ _ ?_; clear hK K
   refine wl_v (x_assign (tmS rfl rfl)) ?_
   refine wl_nil ?_
   rw [← List.map_append] at hS
   refine then_n (hK14 _ _ ?_); clear hK14 K14
   refine wp_seq_k ?_; intro K15 hK15
   refine wlit ?_
   refine wl_v (x_move (tmS rfl rfl)) ?_
   refine wl_v (x_move (tmS rfl rfl)) ?_
   refine wl_e rfl ?_; intro K hK
   refine ow_build hS Try.underlying126 tz_22 (bc_take (tmS rfl rfl) <| bc_nil) rfl rfl (by kernel_rfl) ?_
   clear hS; intro g14_2 w hg14_2 hS
   refine hK _ _ ?_; clear hK K
   refine wl_e rfl ?_; intro K hK
   refine ow_call Try.func52 rfl rfl (evs_cons (tmS rfl rfl) <| evs_nil) (sum_of_c 1 _ 1 [(g13_3, hd4B tos len id (flN off stay more) ttl proto 0 sl dl o, cg13_3)] _ (by have h := viewB hS.ok 0 rfl; rw [show 0 + 1 + 1 + 2 + 2 + 2 + 1 + 1 + 2 + 4 + 4 + o.length = (hd4B tos len id (flN off stay more) ttl proto 0 sl dl o).length from hlen.symm] at h; exact h) (seen_one (viewR hS.ok 1 rfl)) (brows_cons hby brows_nil) rfl (by omega) (by rw [joined_one]; omega)) ?_
   rintro e w ⟨rfl, hk⟩
   refine ⟨_, rfl, ?_⟩
   rw [rsum_one, hlen]
   replace hS := hS.kept hk
   clear hk
   refine hK _ _ ?_; clear hK K
   refine wl_v (x_convN Try.underlying27 Try.underlying24 (tmI rfl rfl) (fit_u64 (by omega))) ?_
   refine wl_e rfl ?_; intro K hK
   refine ow_call Try.func51 rfl rfl (evs_cons (tmS rfl rfl) <| evs_cons (ev_cN 10) <| evs_cons (tmI rfl rfl) <| evs_cons (ev_cN 2) <| evs_nil) (set_c _ _ _ (hd4B tos len id (flN off stay more) ttl proto 0 sl dl o) 10 _ 2 _ (viewR hS.ok 1 rfl) hlen (by omega) (by omega) (by omega) (by omega) (by omega)) ?_
   rintro e w ⟨g3, rfl, hn, hk⟩
   refine ⟨_, rfl, ?_⟩
   replace hS := hS.add hk hn -- +rowz
   clear hn hk
   refine hK _ _ ?_; clear hK K
   refine wl_v (x_move (tmT rfl rfl)) ?_
   refine wl_v (x_ext (tmT rfl rfl) rfl) ?_
   refine wl_v (x_ext (tmT rfl rfl) rfl) ?_
   refine wl_v (x_assign (tmS rfl rfl)) ?_
   refine wl_nil ?_
   refine then_n (hK15 _ _ ?_); clear hK15 K15
   refine wp_seq_k ?_; intro K16 hK16
   refine wlit ?_
   refine wl_v (x_move (tmS rfl rfl)) ?_
   refine wl_v (x_assign (tmS rfl rfl)) ?_
   refine wl_nil ?_
   refine then_n (hK16 _ _ ?_); clear hK16 K16
   refine wp_ret ?_
   refine ret1 rfl (.tmp rfl (show _ = Value.slice _ _ _ from rfl)) ?_
   have e : hd4C tos len id (flN off stay more) ttl proto sl dl o = 65535 - foldN (psum (hd4B tos len id (flN off stay more) ttl proto 0 sl dl o) (20 + o.length)) := rfl
   rw [← e, hsum] at hS
   exact ⟨_, _, _, by omega, rfl, hS.new 0 rfl rfl, hS.kp⟩

set_option maxRecDepth 100000 in
set_option maxHeartbeats 8000000 in
theorem ip4_packet_c (tos : Nat) (len : Int) (id : Nat) (stay more : Bool) (off ttl proto sum sl dl : Nat) (O : Option Addr) (c : Nat) (o : List Nat) (L : Option Addr) (cl : Nat) (x : List Nat) (w0 : World) (h1 : View w0 w0.heap.size O (o.map u8v)) (hob : Bytes o) (h2 : View w0 w0.heap.size L (x.map u8v))
    (q1 : tos < 256) (q3 : id < 65536) (q7 : ttl < 256) (q8 : proto < 256) (hr : hdRight ((20 + o.length + x.length : Nat) : Int) (off : Int) ⟨false, 0, sl⟩ ⟨false, 0, dl⟩ o.length) :
    Calls Try.prog 11 #[.agg (hdV tos len id stay more (off : Int) ttl proto sum ⟨false, 0, sl⟩ ⟨false, 0, dl⟩ O o.length c).toArray, .slice L x.length cl] w0 fun e w' => ∃ A' n c', n = 20 + o.length + x.length ∧ e = .returned (.tuple #[.slice A' n c', .int .i64 0]) ∧ New w0 w' (.row (.slice A' n c') 5 1 n ((hd4B tos (20 + o.length + x.length) id (flN off stay more) ttl proto (hd4C tos (20 + o.length + x.length) id (flN off stay more) ttl proto sl dl o) sl dl o ++ x).map u8v)) ∧ Kp [] w0 w' := by
  have hS := ((St.sv w0).vcons rfl h1).vcons rfl h2
  have hr' := hr
  obtain ⟨r1, r2, r3, r4, r5, r6, _, _⟩ := hr'
  refine ent (n := 22) Try.func11 rfl rfl ?_
  refine wp_seq_k ?_; intro K1 hK1
  refine wlit ?_
  refine wl_e rfl ?_; intro K hK
  refine ow_box hS (tmA rfl rfl) rfl ?_
  clear hS; intro g0_0 w hg0_0 hS
  refine hK _ _ ?_; clear hK K
  refine wl_v (x_assign ev_c) ?_
  refine wl_v (x_assign (ev_cN 0)) ?_
  refine wl_nil ?_
  refine then_n (hK1 _ _ ?_); clear hK1 K1
  refine wp_seq_k ?_; intro K2 hK2
  refine wlit ?_
  refine wl_v (x_loadA (cs := [_, _, _, _, _, _, _, _, _, _, _, _, _, _, _, _]) Try.underlying64 rfl ts_64 (tmP rfl rfl) (rangeB hS.ok 0 rfl rfl)) ?_
  refine wl_e rfl ?_; intro K hK
  refine ow_call Try.func26 rfl rfl (evs_cons (tmA rfl rfl) <| evs_nil) (ip4_size_c _ _ _ _ _ _ _ _ _ _ _ _ _ _ _ (by omega)) ?_
  rintro e w ⟨rfl, hk⟩
  refine ⟨_, rfl, ?_⟩
  replace hS := hS.kept hk
  clear hk
  refine hK _ _ ?_; clear hK K
  refine wl_v (x_move (tmS rfl rfl)) ?_
  refine wl_v (x_len Try.underlying22 (tmS rfl rfl)) ?_
  refine wl_v (x_addN (tmI rfl rfl) (tmI rfl rfl) (fit_i64 (by omega))) ?_
  refine wl_v (x_fa 1 Try.underlying64 rfl rfl ts_3 (tmP rfl rfl)) ?_
  refine wl_e rfl ?_; intro K hK
  refine ow_store hS 0 rfl ts_3 (tmP rfl rfl) (tmI rfl rfl) rfl rfl ?_
  clear hS; intro w hS
  try replace hS := St.nm (M' := [.blk _ _ [_, _, _, _, _, _, _, _, _, _, _, _, _, _, _, _], .vw _ _, .vw _ _]) hS rfl
  refine hK _ _ ?_; clear hK K
  refine wl_nil ?_
  refine then_n (hK2 _ _ ?_); clear hK2 K2
  refine wp_seq_k ?_; intro K3 hK3
  refine wp_seq_k ?_; intro K4 hK4
  refine wlit ?_
  refine wl_v (x_fa 1 Try.underlying64 rfl rfl ts_3 (tmP rfl rfl)) ?_
  refine wl_v (x_load Try.underlying3 rfl (tmP rfl rfl) (cellB hS.ok 0 rfl rfl)) ?_
  refine wl_v (x_gtr (tmI rfl rfl) (ev_cN 65535)) ?_
  refine wl_nil ?_
  refine then_n (hK4 _ _ ?_); clear hK4 K4
  refine cnd (tm rfl) (fun hc0 => ?_) (fun hc0 => ?_)
  · exfalso
    simp only [nrm] at hc0
    omega
  all_goals
   try simp only [nrm] at hc0
   refine wp_skip ?_
   refine then_n (hK3 _ _ ?_); clear hK3 K3
   refine wp_seq_k ?_; intro K5 hK5
   refine wp_seq_k ?_; intro K6 hK6
   refine wlit ?_
   refine wl_v (x_loadA (cs := [_, _, _, _, _, _, _, _, _, _, _, _, _, _, _, _]) Try.underlying64 rfl ts_64 (tmP rfl rfl) (rangeB hS.ok 0 rfl rfl)) ?_
   refine wl_e rfl ?_; intro K hK
   refine ow_call Try.func27 rfl rfl (evs_cons (tmA rfl rfl) <| evs_nil) (ip4_right_c tos ((20 + o.length + x.length : Nat) : Int) id stay more off ttl proto sum ⟨false, 0, sl⟩ ⟨false, 0, dl⟩ O o.length c _ (by omega)) ?_
   rintro e w ⟨rfl, hk⟩
   refine ⟨_, rfl, ?_⟩
   replace hS := hS.kept hk
   clear hk
   refine hK _ _ ?_; clear hK K
   refine wl_v (x_not (tmB rfl rfl)) ?_
   refine wl_nil ?_
   refine then_n (hK6 _ _ ?_); clear hK6 K6
   refine cnd (tm rfl) (fun hc1 => ?_) (fun hc1 => ?_)
   · exfalso
     simp at hc1
     exact hc1 hr
   all_goals
    try simp only [nrm] at hc1
    refine wp_skip ?_
    refine then_n (hK5 _ _ ?_); clear hK5 K5
    refine wp_seq_k ?_; intro K7 hK7
    refine wlit ?_
    refine wl_v (x_loadA (cs := [_, _, _, _, _, _, _, _, _, _, _, _, _, _, _, _]) Try.underlying64 rfl ts_64 (tmP rfl rfl) (rangeB hS.ok 0 rfl rfl)) ?_
    refine wl_e rfl ?_; intro K hK
    refine ow_call Try.func28 rfl rfl (evs_cons (tmA rfl rfl) <| evs_nil) (ip4_bytes_c tos (20 + o.length + x.length) id stay more off ttl proto sum sl dl O c o _ (viewV hS.ok 2 rfl) hob q1 q3 q7 q8 hr) ?_
    rintro e w ⟨A1, n1, c1, hn1, rfl, hn, hk⟩
    refine ⟨_, rfl, ?_⟩
    replace hS := hS.add hk hn -- +rowb
    clear hn hk
    refine hK _ _ ?_; clear hK K
    refine wl_v (x_move (tmS rfl rfl)) ?_
    refine wl_e rfl ?_; intro K hK
    refine ow_appendV hS 0 rfl (viewV hS.ok 2 rfl) Try.underlying22 tz_5 rfl (tmS rfl rfl) (tmS rfl rfl) (by first | exact u8v_one _ | (intro u hu; simp at hu; first | (rcases hu with rfl | rfl <;> rfl) | (obtain ⟨_, _, rfl⟩ := hu; rfl))) ⟨by decide, by first | rfl | (simp; done) | (simp; omega)⟩ (by simp only [maxLen]; omega) (by omega) ?_; clear hS; intro g6_3 cg6_3 w hAg6_3 hCg6_3 hS
    refine hK _ _ ?_; clear hK K
    refine wl_v (x_assign (tmS rfl rfl)) ?_
    refine wl_v (x_assign (ev_cN 0)) ?_
    refine wl_nil ?_
    rw [← List.map_append] at hS
    refine then_n (hK7 _ _ ?_); clear hK7 K7
    refine wp_ret ?_
    refine ret2 rfl (.tmp rfl (show _ = Value.slice _ _ _ from rfl)) (.tmp rfl (show _ = Value.int _ _ from rfl)) ?_
    exact ⟨_, _, _, by omega, rfl, hS.new 0 rfl rfl, hS.kp⟩

end Go.Proofs.Ytcobjneobdihkaa
