
/- ip4: Older, and the law's awake, by contract. Conditions: none but bounds. -/
import Derived.Test.YtfagblcepibliaaIp4P
namespace Go.Proofs.Ytfagblcepibliaa
open Go.RowKit

def updN (s a b : Nat) : Nat := 65535 - foldN ((65535 - s) + (65535 - a) + b)
set_option maxRecDepth 100000 in
set_option maxHeartbeats 4000000 in
theorem update_c (s a b : Nat) (w0 : World) (hs : s ≤ 65535) (ha : a ≤ 65535) (hb : b ≤ 65535) :
    Calls Try.prog 141 #[.int .u16 (s : Int), .int .u16 (a : Int), .int .u16 (b : Int)] w0 fun e w' => e = .returned (.int .u16 ((updN s a b : Nat) : Int)) ∧ Kp [] w0 w' := by
  have hS := St.sv w0
  have hf := foldN_bd ((65535 - s) + (65535 - a) + b)
  refine ent (n := 19) Try.func141 rfl rfl ?_
  refine wp_seq_k ?_; intro K1 hK1
  refine wlit ?_
  refine wl_v (x_assign (ev_cN 0)) ?_
  refine wl_nil ?_
  refine then_n (hK1 _ _ ?_); clear hK1 K1
  refine wp_seq_k ?_; intro K2 hK2
  refine wlit ?_
  refine wl_v (x_move (tmI rfl rfl)) ?_
  refine wl_v (x_not16 (tmI rfl rfl) hs) ?_
  first
   | refine wl_v (x_convN Try.underlying24 Try.underlying25 (tmI rfl rfl) (fit_u64 (by omega))) ?_
   | refine wl_v (x_convU Try.underlying24 Try.underlying25 (tmI rfl rfl) rfl) ?_
   | refine wl_v (x_conv Try.underlying24 Try.underlying25 (tmI rfl rfl)) ?_
  refine wl_v (x_move (tmI rfl rfl)) ?_
  refine wl_v (x_not16 (tmI rfl rfl) ha) ?_
  first
   | refine wl_v (x_convN Try.underlying24 Try.underlying25 (tmI rfl rfl) (fit_u64 (by omega))) ?_
   | refine wl_v (x_convU Try.underlying24 Try.underlying25 (tmI rfl rfl) rfl) ?_
   | refine wl_v (x_conv Try.underlying24 Try.underlying25 (tmI rfl rfl)) ?_
  first
   | refine wl_v (x_addN (tmI rfl rfl) (tmI rfl rfl) (fit_u64 (by omega))) ?_
   | refine wl_v (x_addI (tmI rfl rfl) (tmI rfl rfl) (IntWalk.u64_in _ (by omega))) ?_
   | refine wl_v (x_addU (tmI rfl rfl) (tmI rfl rfl) rfl) ?_
   | refine wl_v (x_add (tmI rfl rfl) (tmI rfl rfl)) ?_
  refine wl_v (x_move (tmI rfl rfl)) ?_
  first
   | refine wl_v (x_convN Try.underlying24 Try.underlying25 (tmI rfl rfl) (fit_u64 (by omega))) ?_
   | refine wl_v (x_convU Try.underlying24 Try.underlying25 (tmI rfl rfl) rfl) ?_
   | refine wl_v (x_conv Try.underlying24 Try.underlying25 (tmI rfl rfl)) ?_
  first
   | refine wl_v (x_addN (tmI rfl rfl) (tmI rfl rfl) (fit_u64 (by omega))) ?_
   | refine wl_v (x_addI (tmI rfl rfl) (tmI rfl rfl) (IntWalk.u64_in _ (by omega))) ?_
   | refine wl_v (x_addU (tmI rfl rfl) (tmI rfl rfl) rfl) ?_
   | refine wl_v (x_add (tmI rfl rfl) (tmI rfl rfl)) ?_
  refine wl_e rfl ?_; intro K hK
  refine ow_call Try.func148 rfl rfl (evs_cons (tmI rfl rfl) <| evs_nil) (fold_c _ _ (by omega)) ?_
  rintro e w ⟨rfl, hk⟩
  refine ⟨_, rfl, ?_⟩
  replace hS := hS.kept hk
  clear hk
  refine hK _ _ ?_; clear hK K
  refine wl_v (x_not16 (tmI rfl rfl) hf) ?_
  refine wl_v (x_assign (tmI rfl rfl)) ?_
  refine wl_nil ?_
  refine then_n (hK2 _ _ ?_); clear hK2 K2
  refine wp_ret ?_
  refine ret1 rfl (.tmp rfl (show _ = Value.int _ _ from rfl)) ?_
  exact ⟨rfl, hS.kp⟩

set_option maxRecDepth 100000 in
set_option maxHeartbeats 4000000 in
theorem ip4_age_c (tos : Nat) (len : Int) (id : Nat) (stay more : Bool) (off : Int) (ttl proto sum : Nat) (s d : Ad) (O : Option Addr) (m c : Nat) (w0 : World) (ht : ttl ≤ 255) (hp : proto ≤ 255) :
    Calls Try.prog 140 #[.agg (hdV tos len id stay more off ttl proto sum s d O m c).toArray] w0 fun e w' => e = .returned (.int .u16 ((ttl * 256 + proto : Nat) : Int)) ∧ Kp [] w0 w' := by
  have hS := St.sv w0
  have ho := or_low (x := ttl) (y := proto) (by omega)
  refine ent (n := 11) Try.func140 rfl rfl ?_
  refine wp_seq_k ?_; intro K1 hK1
  refine wlit ?_
  refine wl_e rfl ?_; intro K hK
  refine ow_box hS (tmA rfl rfl) rfl ?_
  clear hS; intro g0_0 w hg0_0 hS
  refine hK _ _ ?_; clear hK K
  refine wl_v (x_assign (ev_cN 0)) ?_
  refine wl_nil ?_
  refine then_n (hK1 _ _ ?_); clear hK1 K1
  refine wp_seq_k ?_; intro K2 hK2
  refine wlit ?_
  refine wl_v (x_fa 6 Try.underlying29 rfl rfl ts_5 (tmP rfl rfl)) ?_
  first
   | refine wl_v (x_load Try.underlying5 rfl (tmP rfl rfl) (cellB hS.ok 0 rfl rfl)) ?_
   | refine wl_v (x_load Try.underlying5 rfl (tmP rfl rfl) (cellB hS.ok 0 rfl (getm (by omega)))) ?_
  first
   | refine wl_v (x_convN Try.underlying5 Try.underlying24 (tmI rfl rfl) (fit_u16 (by omega))) ?_
   | refine wl_v (x_convU Try.underlying5 Try.underlying24 (tmI rfl rfl) rfl) ?_
   | refine wl_v (x_conv Try.underlying5 Try.underlying24 (tmI rfl rfl)) ?_
  first
   | refine wl_v (x_shlN (tmI rfl rfl) (ev_cN 8) (by decide) (fit_u16 (by omega))) ?_
   | refine wl_v (x_shlN (tmI rfl rfl) (ev_cN 8) (by have : IntKind.bits .u16 = 16 := rfl; omega) (fit_u16 (by omega))) ?_
   | refine wl_v (x_shlU (tmI rfl rfl) (ev_cN 8) rfl) ?_
  refine wl_v (x_fa 7 Try.underlying29 rfl rfl ts_5 (tmP rfl rfl)) ?_
  first
   | refine wl_v (x_load Try.underlying5 rfl (tmP rfl rfl) (cellB hS.ok 0 rfl rfl)) ?_
   | refine wl_v (x_load Try.underlying5 rfl (tmP rfl rfl) (cellB hS.ok 0 rfl (getm (by omega)))) ?_
  first
   | refine wl_v (x_convN Try.underlying5 Try.underlying24 (tmI rfl rfl) (fit_u16 (by omega))) ?_
   | refine wl_v (x_convU Try.underlying5 Try.underlying24 (tmI rfl rfl) rfl) ?_
   | refine wl_v (x_conv Try.underlying5 Try.underlying24 (tmI rfl rfl)) ?_
  refine wl_v (x_orN (tmI rfl rfl) (tmI rfl rfl) (fit_u16 (by omega)) (fit_u16 (by omega))) ?_
  refine wl_v (x_assign (tmI rfl (congrArg (fun q : Nat => Value.int .u16 (q : Int)) ho))) ?_
  refine wl_nil ?_
  refine then_n (hK2 _ _ ?_); clear hK2 K2
  refine wp_ret ?_
  refine ret1 rfl (.tmp rfl (show _ = Value.int _ _ from rfl)) ?_
  exact ⟨rfl, hS.kp⟩

set_option maxRecDepth 100000 in
set_option maxHeartbeats 8000000 in
theorem ip4_older_c (n : Nat) (A : Option Addr) (c : Nat) (l : List Nat) (w0 : World) (hv : View w0 w0.heap.size A (l.map u8v)) (hl : l.length = n) (hc : n ≤ c) (hb : Bytes l) (hn4 : n ≤ 1000000)
    (sz len : Nat) (hf : Ip4Form l n sz len) (hlen : len ≤ n) (hsum : SumOk l sz) (h2 : 2 ≤ getN l 8 1) :
    Calls Try.prog 99 #[.slice A n c] w0 fun e w' => ∃ g, e = .returned (.tuple #[.slice (some ⟨g, 0, none⟩) n n, .int .i64 0]) ∧
      New w0 w' (.row (.slice (some ⟨g, 0, none⟩) n n) 5 1 n ((splice (splice l 8 (be ((getN l 8 1 - 1) * 256 + getN l 9 1) 2)) 10 (be (updN (getN l 10 2) (getN l 8 1 * 256 + getN l 9 1) ((getN l 8 1 - 1) * 256 + getN l 9 1)) 2)).map u8v)) ∧ Kp [] w0 w' := by
  have hS := (St.sv w0).vcons rfl hv
  have n20 := hf.n20
  have g8 := getN_lt hb 8 1
  have g9 := getN_lt hb 9 1
  have g10 := getN_lt hb 10 2
  have hp := fun w (h1 : View w w.heap.size A (l.map u8v)) => ip4_parse_c n A c l w h1 hl hc hb hn4 sz len hf hlen hsum
  have hl2 : ∀ x, (splice l 8 (be x 2)).length = n := fun x => by rw [splice_len (by rw [be_length]; omega)]; exact hl
  have hu : ∀ s a b, updN s a b ≤ 65535 := fun s a b => by unfold updN; omega
  have hu1 := hu (getN l 10 2) (getN l 8 1 * 256 + getN l 9 1) ((getN l 8 1 - 1) * 256 + getN l 9 1)
  generalize getN l 8 1 = t8 at *
  generalize getN l 9 1 = t9 at *
  generalize getN l 10 2 = t10 at *
  refine ent (n := 47) Try.func99 rfl rfl ?_
  refine wp_seq_k ?_; intro K1 hK1
  refine wlit ?_
  refine wl_v (x_assign ev_c) ?_
  refine wl_v (x_assign (ev_cN 0)) ?_
  refine wl_nil ?_
  refine then_n (hK1 _ _ ?_); clear hK1 K1
  refine wp_seq_k ?_; intro K2 hK2
  refine wlit ?_
  refine wl_v (x_move (tmS rfl rfl)) ?_
  refine wl_e rfl ?_; intro K hK
  refine ow_call Try.func20 rfl rfl (evs_cons (tmS rfl rfl) <| evs_nil) (hp _ (viewV hS.ok 0 rfl)) ?_
  rintro e w ⟨O, L, rfl, hn1, hn2, hk⟩
  refine ⟨_, rfl, ?_⟩
  replace hS := hS.addn2 hk hn2 hn1 -- +vl,vo
  clear hn1 hn2 hk
  refine hK _ _ ?_; clear hK K
  refine wl_v (x_move (tmT rfl rfl)) ?_
  refine wl_v (x_ext (tmT rfl rfl) rfl) ?_
  refine wl_v (x_ext (tmT rfl rfl) rfl) ?_
  refine wl_v (x_ext (tmT rfl rfl) rfl) ?_
  refine wl_e rfl ?_; intro K hK
  refine ow_alloc hS tz_29 rfl ?_
  clear hS; intro g1_6 w hg1_6 hS
  refine hK _ _ ?_; clear hK K
  refine wl_e rfl ?_; intro K hK
  refine ow_storeA hS 0 rfl ts_29 (tmP rfl rfl) (tmA rfl rfl) rfl rfl rfl ?_
  clear hS; intro w hS
  try replace hS := St.nm (M' := [.blk _ _ [_, _, _, _, _, _, _, _, _, _, _, _, _, _, _, _], .vw _ _, .vw _ _, .vw _ _]) hS rfl
  refine hK _ _ ?_; clear hK K
  refine wl_v (x_assign (tmS rfl rfl)) ?_
  refine wl_v (x_assign (tmI rfl rfl)) ?_
  refine wl_nil ?_
  refine then_n (hK2 _ _ ?_); clear hK2 K2
  refine wp_seq_k ?_; intro K3 hK3
  refine wp_seq_k ?_; intro K4 hK4
  refine wlit ?_
  refine wl_v (x_move (tmI rfl rfl)) ?_
  refine wl_v (x_neq (tmI rfl rfl) (ev_cN 0)) ?_
  refine wl_nil ?_
  refine then_n (hK4 _ _ ?_); clear hK4 K4
  refine cnd (tm rfl) (fun hc0 => ?_) (fun hc0 => ?_)
  · exfalso
    simp at hc0
  try (exfalso; first | with_reducible exact absurd hc0 Bool.false_ne_true | with_reducible exact absurd hc0.symm Bool.false_ne_true | (simp only [nrm] at hc0; omega) | (simp at hc0; done))
  all_goals
   try simp only [nrm] at hc0
   refine wp_skip ?_
   refine then_n (hK3 _ _ ?_); clear hK3 K3
   refine wp_seq_k ?_; intro K5 hK5
   refine wp_seq_k ?_; intro K6 hK6
   refine wlit ?_
   refine wl_v (x_fa 6 Try.underlying29 rfl rfl ts_5 (tmP rfl rfl)) ?_
   first
    | refine wl_v (x_load Try.underlying5 rfl (tmP rfl rfl) (cellB hS.ok 0 rfl rfl)) ?_
    | refine wl_v (x_load Try.underlying5 rfl (tmP rfl rfl) (cellB hS.ok 0 rfl (getm (by omega)))) ?_
   refine wl_v (x_leq (tmI rfl rfl) (ev_cN 1)) ?_
   refine wl_nil ?_
   refine then_n (hK6 _ _ ?_); clear hK6 K6
   refine cnd (tm rfl) (fun hc1 => ?_) (fun hc1 => ?_)
   · exfalso
     simp only [nrm] at hc1
     omega
   try (exfalso; first | with_reducible exact absurd hc1 Bool.false_ne_true | with_reducible exact absurd hc1.symm Bool.false_ne_true | (simp only [nrm] at hc1; omega) | (simp at hc1; done))
   all_goals
    try simp only [nrm] at hc1
    refine wp_skip ?_
    refine then_n (hK5 _ _ ?_); clear hK5 K5
    refine wp_seq_k ?_; intro K7 hK7
    refine wlit ?_
    refine wl_v (x_loadA (cs := [_, _, _, _, _, _, _, _, _, _, _, _, _, _, _, _]) Try.underlying29 rfl ts_29 (tmP rfl rfl) (rangeB hS.ok 0 rfl rfl)) ?_
    refine wl_e rfl ?_; intro K hK
    refine ow_call Try.func140 rfl rfl (evs_cons (tmA rfl rfl) <| evs_nil) (ip4_age_c _ _ _ _ _ _ t8 t9 _ _ _ _ _ _ _ (by omega) (by omega)) ?_
    rintro e w ⟨rfl, hk⟩
    refine ⟨_, rfl, ?_⟩
    replace hS := hS.kept hk
    clear hk
    refine hK _ _ ?_; clear hK K
    refine wl_v (x_assign (tmI rfl rfl)) ?_
    refine wl_nil ?_
    refine then_n (hK7 _ _ ?_); clear hK7 K7
    refine wp_seq_k ?_; intro K8 hK8
    refine wlit ?_
    refine wl_v (x_fa 6 Try.underlying29 rfl rfl ts_5 (tmP rfl rfl)) ?_
    first
     | refine wl_v (x_load Try.underlying5 rfl (tmP rfl rfl) (cellB hS.ok 0 rfl rfl)) ?_
     | refine wl_v (x_load Try.underlying5 rfl (tmP rfl rfl) (cellB hS.ok 0 rfl (getm (by omega)))) ?_
    first
     | refine wl_v (x_subN (tmI rfl rfl) (ev_cN 1) (fit_u8 (by omega)) (by omega)) ?_
     | refine wl_v (x_subI (tmI rfl rfl) (ev_cN 1) (IntWalk.u8_in _ (by omega))) ?_
     | refine wl_v (x_subU (tmI rfl rfl) (ev_cN 1) rfl (fit_u8 (by omega))) ?_
     | refine wl_v (x_sub (tmI rfl rfl) (ev_cN 1)) ?_
    refine wl_v (x_fa 6 Try.underlying29 rfl rfl ts_5 (tmP rfl rfl)) ?_
    refine wl_e rfl ?_; intro K hK
    first
     | refine ow_store hS 0 rfl ts_5 (tmP rfl rfl) (tmI rfl rfl) rfl rfl ?_
     | refine ow_storeX hS 0 rfl ts_5 (tmP rfl rfl) (tmI rfl rfl) rfl (by simp; omega) ?_
    clear hS; intro w hS
    try replace hS := St.nm (M' := [.blk _ _ [_, _, _, _, _, _, _, _, _, _, _, _, _, _, _, _], .vw _ _, .vw _ _, .vw _ _]) hS rfl
    refine hK _ _ ?_; clear hK K
    refine wl_nil ?_
    refine then_n (hK8 _ _ ?_); clear hK8 K8
    refine wp_seq_k ?_; intro K9 hK9
    refine wlit ?_
    refine wl_v (x_move (tmS rfl rfl)) ?_
    refine wl_v (x_loadA (cs := [_, _, _, _, _, _, _, _, _, _, _, _, _, _, _, _]) Try.underlying29 rfl ts_29 (tmP rfl rfl) (rangeB hS.ok 0 rfl rfl)) ?_
    refine wl_e rfl ?_; intro K hK
    refine ow_call Try.func140 rfl rfl (evs_cons (tmA rfl rfl) <| evs_nil) (ip4_age_c _ _ _ _ _ _ (t8 - 1) t9 _ _ _ _ _ _ _ (by omega) (by omega)) ?_
    rintro e w ⟨rfl, hk⟩
    refine ⟨_, rfl, ?_⟩
    replace hS := hS.kept hk
    clear hk
    refine hK _ _ ?_; clear hK K
    first
     | refine wl_v (x_convN Try.underlying24 Try.underlying25 (tmI rfl rfl) (fit_u64 (by omega))) ?_
     | refine wl_v (x_convU Try.underlying24 Try.underlying25 (tmI rfl rfl) rfl) ?_
     | refine wl_v (x_conv Try.underlying24 Try.underlying25 (tmI rfl rfl)) ?_
    refine wl_e rfl ?_; intro K hK
    refine ow_call Try.func112 rfl rfl (evs_cons (tmS rfl rfl) <| evs_cons (ev_cN 8) <| evs_cons (tmI rfl rfl) <| evs_cons (ev_cN 2) <| evs_nil) (set_c n A c l 8 _ 2 _ (viewV hS.ok 3 rfl) hl hn4 (by omega) (by omega) (by omega) (by omega)) ?_
    rintro e w ⟨g1, rfl, hn, hk⟩
    refine ⟨_, rfl, ?_⟩
    replace hS := hS.add hk hn -- +rowa
    clear hn hk
    refine hK _ _ ?_; clear hK K
    refine wl_v (x_move (tmT rfl rfl)) ?_
    refine wl_v (x_ext (tmT rfl rfl) rfl) ?_
    refine wl_v (x_ext (tmT rfl rfl) rfl) ?_
    refine wl_v (x_assign (tmS rfl rfl)) ?_
    refine wl_v (x_assign (tmI rfl rfl)) ?_
    refine wl_nil ?_
    refine then_n (hK9 _ _ ?_); clear hK9 K9
    refine wp_seq_k ?_; intro K10 hK10
    refine rg_startk 0 hS mixed_ ?_
    clear hS; intro w hS
    refine rg_take 0 rfl rfl (by kernel_rfl) (by kernel_rfl) (by kernel_rfl) (want_0) (fun w hok => x_move (tmS rfl rfl)) ?_
    refine rg_take 1 rfl rfl (by kernel_rfl) (by kernel_rfl) (by kernel_rfl) (want_0) (fun w hok => x_fa 8 Try.underlying29 rfl rfl ts_24 (tmP rfl rfl)) ?_
    first
     | refine rg_take 2 rfl rfl (by kernel_rfl) (by kernel_rfl) (by kernel_rfl) (want_0) (fun w hok => x_load Try.underlying24 rfl (tmP rfl rfl) (cellB hok 1 rfl rfl)) ?_
     | refine rg_take 2 rfl rfl (by kernel_rfl) (by kernel_rfl) (by kernel_rfl) (want_0) (fun w hok => x_load Try.underlying24 rfl (tmP rfl rfl) (cellB hok 1 rfl (getm (by omega)))) ?_
    refine rg_take 3 rfl rfl (by kernel_rfl) (by kernel_rfl) (by kernel_rfl) (want_0) (fun w hok => x_move (tmI rfl rfl)) ?_
    refine rg_take 4 rfl rfl (by kernel_rfl) (by kernel_rfl) (by kernel_rfl) (want_0) (fun w hok => x_loadA (cs := [_, _, _, _, _, _, _, _, _, _, _, _, _, _, _, _]) Try.underlying29 rfl ts_29 (tmP rfl rfl) (rangeB hok 1 rfl rfl)) ?_
    refine rg_step 5 rfl (by kernel_rfl) (want_0) (oks_drop hS 0 rfl) ?_; intro K hK
    refine ow_call Try.func140 rfl rfl (evs_cons (tmA rfl rfl) <| evs_nil) (ip4_age_c _ _ _ _ _ _ (t8 - 1) t9 _ _ _ _ _ _ _ (by omega) (by omega)) ?_
    rintro e w ⟨rfl, hk⟩
    refine ⟨_, rfl, ?_⟩
    replace hS := hS.kept hk
    clear hk
    refine hK _ _ ?_; clear hK K
    refine rg_step 6 rfl (by kernel_rfl) (want_0) (oks_drop hS 0 rfl) ?_; intro K hK
    refine ow_call Try.func141 rfl rfl (evs_cons (tmI rfl rfl) <| evs_cons (tmI rfl rfl) <| evs_cons (tmI rfl rfl) <| evs_nil) (update_c t10 _ _ _ (by omega) (by omega) (by omega)) ?_
    rintro e w ⟨rfl, hk⟩
    refine ⟨_, rfl, ?_⟩
    replace hS := hS.kept hk
    clear hk
    refine hK _ _ ?_; clear hK K
    first
     | refine rg_take 7 rfl rfl (by kernel_rfl) (by kernel_rfl) (by kernel_rfl) (want_0) (fun w hok => x_convN Try.underlying24 Try.underlying25 (tmI rfl rfl) (fit_u64 (by omega))) ?_
     | refine rg_take 7 rfl rfl (by kernel_rfl) (by kernel_rfl) (by kernel_rfl) (want_0) (fun w hok => x_convU Try.underlying24 Try.underlying25 (tmI rfl rfl) rfl) ?_
     | refine rg_take 7 rfl rfl (by kernel_rfl) (by kernel_rfl) (by kernel_rfl) (want_0) (fun w hok => x_conv Try.underlying24 Try.underlying25 (tmI rfl rfl)) ?_
    refine rg_step 8 rfl (by kernel_rfl) (want_0) (oks_drop hS 0 rfl) ?_; intro K hK
    refine ow_call Try.func112 rfl rfl (evs_cons (tmS rfl rfl) <| evs_cons (ev_cN 10) <| evs_cons (tmI rfl rfl) <| evs_cons (ev_cN 2) <| evs_nil) (set_c n _ _ _ 10 _ 2 _ (viewR hS.ok 0 rfl) (hl2 _) hn4 (by have := hu t10 (t8 * 256 + t9) ((t8 - 1) * 256 + t9); omega) (by omega) (by omega) (by omega)) ?_
    rintro e w ⟨g2, rfl, hn, hk⟩
    refine ⟨_, rfl, ?_⟩
    replace hS := hS.add hk hn -- +rowb
    clear hn hk
    refine hK _ _ ?_; clear hK K
    refine rg_take 9 rfl rfl (by kernel_rfl) (by kernel_rfl) (by kernel_rfl) (want_0) (fun w hok => x_ext (tmT rfl rfl) rfl) ?_
    refine rg_take 10 rfl rfl (by kernel_rfl) (by kernel_rfl) (by kernel_rfl) (want_0) (fun w hok => x_ext (tmT rfl rfl) rfl) ?_
    refine rg_take 11 rfl rfl (by kernel_rfl) (by kernel_rfl) (by kernel_rfl) (want_0) (fun w hok => x_assign (tmS rfl rfl)) ?_
    refine rg_take 12 rfl rfl (by kernel_rfl) (by kernel_rfl) (by kernel_rfl) (want_0) (fun w hok => x_assign (tmI rfl rfl)) ?_
    refine rg_done (oks_drop hS 1 rfl) (by kernel_rfl) ?_
    refine then_n (hK10 _ _ ?_); clear hK10 K10
    refine wp_ret ?_
    refine ret2 rfl (.tmp rfl (show _ = Value.slice _ _ _ from rfl)) (.tmp rfl (show _ = Value.int _ _ from rfl)) ?_
    exact ⟨g2, rfl, hS.new 0 rfl rfl, hS.kp⟩

def exH : List Nat := hd4B 0 21 0 0 64 6 (hd4C 0 21 0 0 64 6 0 0 []) 0 0 [] ++ [1]
theorem exH_form : Ip4Form exH 21 20 21 := ⟨by decide, by decide, by decide, by decide, by decide, by decide, by decide⟩
theorem exH_sum : SumOk exH 20 := by unfold SumOk; decide
theorem exH_len : exH.length = 21 := by decide
theorem exH_bytes : Bytes exH := by
  unfold exH
  exact (hd4B_bytes _ _ _ _ _ _ _ _ _ Bytes.nil).append (by intro x hx; simp at hx; omega)

set_option maxRecDepth 100000 in
set_option maxHeartbeats 8000000 in
theorem law04_awake_c (w0 : World) :
    Calls Try.prog 19 #[] w0 fun e w' => e = .returned (.bool true) ∧ Kp [] w0 w' := by
  have hS := St.sv w0
  have hp := fun L cl w (h2 : View w w.heap.size L (([1] : List Nat).map u8v)) => ip4_packet_c 0 0 0 false false 0 64 6 0 0 0 none 0 [] L cl [1] w View.nil_ Bytes.nil h2 (by omega) (by omega) (by omega) (by omega) (by decide)
  have hold := fun A c w (hv : View w w.heap.size A (exH.map u8v)) (hc : 21 ≤ c) => ip4_older_c 21 A c exH w hv exH_len hc exH_bytes (by omega) 20 21 exH_form (by omega) exH_sum (by decide)
  have h8 : nth (splice (splice exH 8 (be ((getN exH 8 1 - 1) * 256 + getN exH 9 1) 2)) 10 (be (updN (getN exH 10 2) (getN exH 8 1 * 256 + getN exH 9 1) ((getN exH 8 1 - 1) * 256 + getN exH 9 1)) 2)) 8 = 63 := by decide
  have h8l : (splice (splice exH 8 (be ((getN exH 8 1 - 1) * 256 + getN exH 9 1) 2)) 10 (be (updN (getN exH 10 2) (getN exH 8 1 * 256 + getN exH 9 1) ((getN exH 8 1 - 1) * 256 + getN exH 9 1)) 2)).length = 21 := by decide
  generalize splice (splice exH 8 (be ((getN exH 8 1 - 1) * 256 + getN exH 9 1) 2)) 10 (be (updN (getN exH 10 2) (getN exH 8 1 * 256 + getN exH 9 1) ((getN exH 8 1 - 1) * 256 + getN exH 9 1)) 2) = Z at *
  refine ent (n := 33) Try.func19 rfl rfl ?_
  refine wp_seq_k ?_; intro K1 hK1
  refine wlit ?_
  refine wl_v (x_assign ev_c) ?_
  refine wl_nil ?_
  refine then_n (hK1 _ _ ?_); clear hK1 K1
  refine wp_seq_k ?_; intro K2 hK2
  refine wlit ?_
  refine wl_v (x_build (bc_skip (.int .u8 0) <| bc_skip (.int .i64 0) <| bc_skip (.int .u16 0) <| bc_skip (.bool false) <| bc_skip (.bool false) <| bc_skip (.int .i64 0) <| bc_take (ev_cN 64) <| bc_take (ev_cN 6) <| bc_skip (.int .u16 0) <| bc_skipL [.bool false, .int .u64 0, .int .u64 0] <| bc_skipL [.bool false, .int .u64 0, .int .u64 0] <| bc_skip (.slice none 0 0) <| bc_nil) (by kernel_rfl)) ?_
  refine wl_e rfl ?_; intro K hK
  refine ow_build hS Try.underlying22 tz_5 (bc_take (ev_cN 1) <| bc_nil) rfl rfl (by kernel_rfl) ?_
  clear hS; intro g1_1 w hg1_1 hS
  refine hK _ _ ?_; clear hK K
  refine wl_e rfl ?_; intro K hK
  refine ow_call Try.func31 rfl rfl (evs_cons (tmA rfl rfl) <| evs_cons (tmS rfl rfl) <| evs_nil) (hp _ _ _ (viewB hS.ok 0 rfl)) ?_
  rintro e w ⟨A1, n1, c1, hn1, rfl, hn, hk⟩
  refine ⟨_, rfl, ?_⟩
  obtain rfl : n1 = 21 := hn1
  replace hS := hS.add hk hn -- +rowa
  have hcap := row_cap (hS.rowOk 0 rfl) (by omega)
  clear hn hk
  refine hK _ _ ?_; clear hK K
  refine wl_v (x_move (tmT rfl rfl)) ?_
  refine wl_v (x_ext (tmT rfl rfl) rfl) ?_
  refine wl_v (x_ext (tmT rfl rfl) rfl) ?_
  refine wl_v (x_assign (tmS rfl rfl)) ?_
  refine wl_v (x_assign (tmI rfl rfl)) ?_
  refine wl_nil ?_
  refine then_n (hK2 _ _ ?_); clear hK2 K2
  refine wp_seq_k ?_; intro K3 hK3
  refine wlit ?_
  refine wl_v (x_move (tmS rfl rfl)) ?_
  refine wl_e rfl ?_; intro K hK
  refine ow_call Try.func99 rfl rfl (evs_cons (tmS rfl rfl) <| evs_nil) (hold _ _ _ (viewR hS.ok 0 rfl) hcap) ?_
  rintro e w ⟨g2, rfl, hn, hk⟩
  refine ⟨_, rfl, ?_⟩
  replace hS := hS.add hk hn -- +rowb
  clear hn hk
  refine hK _ _ ?_; clear hK K
  refine wl_v (x_move (tmT rfl rfl)) ?_
  refine wl_v (x_ext (tmT rfl rfl) rfl) ?_
  refine wl_v (x_ext (tmT rfl rfl) rfl) ?_
  refine wl_v (x_assign (tmS rfl rfl)) ?_
  refine wl_v (x_assign (tmI rfl rfl)) ?_
  refine wl_nil ?_
  refine then_n (hK3 _ _ ?_); clear hK3 K3
  refine wp_seq_k ?_; intro K4 hK4
  refine wlit ?_
  refine wl_v (x_move (tmI rfl rfl)) ?_
  refine wl_v (x_eql (tmI rfl rfl) (ev_cN 0)) ?_
  refine wl_v (x_move (tmB rfl rfl)) ?_
  refine gs_wl (tm (t := 18) rfl) (fun hg3_2 => ?_) (fun hg3_2 => ?_)
  · have hg3_2' := hg3_2; (try simp only [nrm] at hg3_2'); try (exfalso; first | with_reducible exact absurd hg3_2 Bool.false_ne_true | with_reducible exact absurd hg3_2.symm Bool.false_ne_true | omega | (simp at hg3_2; done))
    all_goals
     refine wl_gv (want_y rfl rfl rfl rfl (by rw [hg3_2]; rfl)) (x_move (tmI rfl rfl)) ?_
     refine wl_gv (want_y rfl rfl rfl rfl (by rw [hg3_2]; rfl)) (x_eql (tmI rfl rfl) (ev_cN 0)) ?_
     refine wl_v (x_pickT (tmB rfl rfl) hg3_2 (tmB rfl rfl)) ?_
     refine wl_v (x_move (tmB rfl rfl)) ?_
     refine gs_wl (tm (t := 22) rfl) (fun hg3_6 => ?_) (fun hg3_6 => ?_)
     · have hg3_6' := hg3_6; (try simp only [nrm] at hg3_6'); try (exfalso; first | with_reducible exact absurd hg3_6 Bool.false_ne_true | with_reducible exact absurd hg3_6.symm Bool.false_ne_true | omega | (simp at hg3_6; done))
       all_goals
        refine wl_gv (want_y rfl rfl rfl rfl (by rw [hg3_6]; rfl)) (x_move (tmS rfl rfl)) ?_
        refine wl_gv (want_y rfl rfl rfl rfl (by rw [hg3_6]; rfl)) (x_len Try.underlying22 (tmS rfl rfl)) ?_
        refine wl_gv (want_y rfl rfl rfl rfl (by rw [hg3_6]; rfl)) (x_eql (tmI rfl rfl) (ev_cN 21)) ?_
        refine wl_v (x_pickT (tmB rfl rfl) hg3_6 (tmB rfl rfl)) ?_
        refine wl_v (x_move (tmB rfl rfl)) ?_
        refine gs_wl (tm (t := 27) rfl) (fun hg3_11 => ?_) (fun hg3_11 => ?_)
        · have hg3_11' := hg3_11; (try simp only [nrm] at hg3_11'); try (exfalso; first | with_reducible exact absurd hg3_11 Bool.false_ne_true | with_reducible exact absurd hg3_11.symm Bool.false_ne_true | omega | (simp at hg3_11; done))
          all_goals
           refine wl_gv (want_y rfl rfl rfl rfl (by rw [hg3_11]; rfl)) (x_move (tmS rfl rfl)) ?_
           refine wl_gv (want_y rfl rfl rfl rfl (by rw [hg3_11]; rfl)) (x_ixs1 Try.underlying22 ts_5 (tmS rfl rfl) (ev_cN 8) (by omega)) ?_
           first
            | refine wl_gv (want_y rfl rfl rfl rfl (by rw [hg3_11]; rfl)) (x_load Try.underlying5 rfl (tmP rfl rfl) (cellB hS.ok 2 rfl rfl)) ?_
            | refine wl_gv (want_y rfl rfl rfl rfl (by rw [hg3_11]; rfl)) (x_load Try.underlying5 rfl (tmP rfl rfl) (cellB hS.ok 3 rfl rfl)) ?_
            | refine wl_gv (want_y rfl rfl rfl rfl (by rw [hg3_11]; rfl)) (x_load Try.underlying5 rfl (tmP rfl rfl) (cellR hS.ok 0 rfl rfl)) ?_
            | refine wl_gv (want_y rfl rfl rfl rfl (by rw [hg3_11]; rfl)) (x_load Try.underlying5 rfl (tmP rfl rfl) (cellR hS.ok 0 rfl (getm (by omega)))) ?_
            | refine wl_gv (want_y rfl rfl rfl rfl (by rw [hg3_11]; rfl)) (x_load Try.underlying5 rfl (tmP rfl rfl) (cellRs hS.ok 0 rfl (fun _ => rfl) rfl (by omega) rfl)) ?_
            | refine wl_gv (want_y rfl rfl rfl rfl (by rw [hg3_11]; rfl)) (x_load Try.underlying5 rfl (tmP rfl rfl) (cellR hS.ok 1 rfl rfl)) ?_
            | refine wl_gv (want_y rfl rfl rfl rfl (by rw [hg3_11]; rfl)) (x_load Try.underlying5 rfl (tmP rfl rfl) (cellR hS.ok 1 rfl (getm (by omega)))) ?_
            | refine wl_gv (want_y rfl rfl rfl rfl (by rw [hg3_11]; rfl)) (x_load Try.underlying5 rfl (tmP rfl rfl) (cellRs hS.ok 1 rfl (fun _ => rfl) rfl (by omega) rfl)) ?_
           refine wl_gv (want_y rfl rfl rfl rfl (by rw [hg3_11]; rfl)) (x_eql (tmI rfl rfl) (ev_cN 63)) ?_
           refine wl_v (x_pickT (tmB rfl rfl) hg3_11 (tmB rfl rfl)) ?_
           refine wl_v (x_assign (tmB rfl rfl)) ?_
           refine wl_nil ?_
           refine then_n (hK4 _ _ ?_); clear hK4 K4
           refine wp_ret ?_
           refine ret1 rfl (.tmp rfl (show _ = Value.bool _ from rfl)) ?_
           refine ⟨?_, hS.kp⟩
           rw [show Z.getD 8 0 = 63 from h8]
           rfl
        have hg3_11' := hg3_11; (try simp only [nrm] at hg3_11'); try (exfalso; first | with_reducible exact absurd hg3_11 Bool.false_ne_true | with_reducible exact absurd hg3_11.symm Bool.false_ne_true | omega | (simp at hg3_11; done))
        all_goals
         refine wl_s rfl (want_n rfl rfl rfl rfl (by rw [hg3_11]; rfl)) ?_
         refine wl_s rfl (want_n rfl rfl rfl rfl (by rw [hg3_11]; rfl)) ?_
         refine wl_s rfl (want_n rfl rfl rfl rfl (by rw [hg3_11]; rfl)) ?_
         refine wl_s rfl (want_n rfl rfl rfl rfl (by rw [hg3_11]; rfl)) ?_
         refine wl_v (x_pickF (tmB rfl rfl) hg3_11 ev_c) ?_
         refine wl_v (x_assign (tmB rfl rfl)) ?_
         refine wl_nil ?_
         refine then_n (hK4 _ _ ?_); clear hK4 K4
         refine wp_ret ?_
         refine ret1 rfl (.tmp rfl (show _ = Value.bool _ from rfl)) ?_
         refine ⟨?_, hS.kp⟩
         rw [show Z.getD 8 0 = 63 from h8]
         rfl
     have hg3_6' := hg3_6; (try simp only [nrm] at hg3_6'); try (exfalso; first | with_reducible exact absurd hg3_6 Bool.false_ne_true | with_reducible exact absurd hg3_6.symm Bool.false_ne_true | omega | (simp at hg3_6; done))
     all_goals
      refine wl_s rfl (want_n rfl rfl rfl rfl (by rw [hg3_6]; rfl)) ?_
      refine wl_s rfl (want_n rfl rfl rfl rfl (by rw [hg3_6]; rfl)) ?_
      refine wl_s rfl (want_n rfl rfl rfl rfl (by rw [hg3_6]; rfl)) ?_
      refine wl_v (x_pickF (tmB rfl rfl) hg3_6 ev_c) ?_
      refine wl_v (x_move (tmB rfl rfl)) ?_
      refine wl_s rfl (want_n rfl rfl rfl rfl rfl) ?_
      refine wl_s rfl (want_n rfl rfl rfl rfl rfl) ?_
      refine wl_s rfl (want_n rfl rfl rfl rfl rfl) ?_
      refine wl_s rfl (want_n rfl rfl rfl rfl rfl) ?_
      refine wl_v (x_pickF (tmB rfl rfl) rfl ev_c) ?_
      refine wl_v (x_assign (tmB rfl rfl)) ?_
      refine wl_nil ?_
      refine then_n (hK4 _ _ ?_); clear hK4 K4
      refine wp_ret ?_
      refine ret1 rfl (.tmp rfl (show _ = Value.bool _ from rfl)) ?_
      refine ⟨?_, hS.kp⟩
      rw [show Z.getD 8 0 = 63 from h8]
      rfl
  have hg3_2' := hg3_2; (try simp only [nrm] at hg3_2'); try (exfalso; first | with_reducible exact absurd hg3_2 Bool.false_ne_true | with_reducible exact absurd hg3_2.symm Bool.false_ne_true | omega | (simp at hg3_2; done))
  all_goals
   refine wl_s rfl (want_n rfl rfl rfl rfl (by rw [hg3_2]; rfl)) ?_
   refine wl_s rfl (want_n rfl rfl rfl rfl (by rw [hg3_2]; rfl)) ?_
   refine wl_v (x_pickF (tmB rfl rfl) hg3_2 ev_c) ?_
   refine wl_v (x_move (tmB rfl rfl)) ?_
   refine wl_s rfl (want_n rfl rfl rfl rfl rfl) ?_
   refine wl_s rfl (want_n rfl rfl rfl rfl rfl) ?_
   refine wl_s rfl (want_n rfl rfl rfl rfl rfl) ?_
   refine wl_v (x_pickF (tmB rfl rfl) rfl ev_c) ?_
   refine wl_v (x_move (tmB rfl rfl)) ?_
   refine wl_s rfl (want_n rfl rfl rfl rfl rfl) ?_
   refine wl_s rfl (want_n rfl rfl rfl rfl rfl) ?_
   refine wl_s rfl (want_n rfl rfl rfl rfl rfl) ?_
   refine wl_s rfl (want_n rfl rfl rfl rfl rfl) ?_
   refine wl_v (x_pickF (tmB rfl rfl) rfl ev_c) ?_
   refine wl_v (x_assign (tmB rfl rfl)) ?_
   refine wl_nil ?_
   refine then_n (hK4 _ _ ?_); clear hK4 K4
   refine wp_ret ?_
   refine ret1 rfl (.tmp rfl (show _ = Value.bool _ from rfl)) ?_
   refine ⟨?_, hS.kp⟩
   rw [show Z.getD 8 0 = 63 from h8]
   rfl
end Go.Proofs.Ytfagblcepibliaa
