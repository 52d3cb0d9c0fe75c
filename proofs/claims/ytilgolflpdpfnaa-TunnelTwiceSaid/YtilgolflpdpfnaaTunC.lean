/- tunnel: outer, Unwrap and the reference's Unwrap, by contract. Conditions: none but bounds. -/
import Derived.Test.YtilgolflpdpfnaaTunB
import Derived.Test.YtilgolflpdpfnaaIp4W
import Derived.Test.YtilgolflpdpfnaaJF
namespace Go.Proofs.Ytilgolflpdpfnaa
open Go.RowKit
/-- What outer answers to bytes l. -/
def HO (l x : List Nat) (pr ttl er : Nat) (s d : Ad) : Prop := ∀ (w : World) (A : Option Addr) (c : Nat), View w w.heap.size A (l.map u8v) → l.length ≤ c → Calls Try.prog 85 #[.slice A l.length c] w fun e w' => ∃ (L : Option Addr) (k c' : Nat), k = x.length ∧ k ≤ c' ∧ e = .returned (.tuple #[.slice L k c', .int .u8 (pr : Int), .agg (wayV s d ttl).toArray, .int .i64 (er : Int)]) ∧ NewV w w' L (x.map u8v) ∧ Kp [] w w'
def fragE (er : Nat) (fr : Bool) : Nat := if er = 0 ∧ fr = true then 21 else er

set_option maxRecDepth 100000 in
set_option maxHeartbeats 4000000 in
theorem outer6 {l x : List Nat} {pr ttl er : Nat} {s d : Ad} (hb : Bytes l) (hn4 : l.length ≤ 3000) (hl0 : l.length ≠ 0) (h6 : nth l 0 / 16 = 6) (hp : H6 136 l x pr ttl er s d) : HO l x pr ttl er s d := by
  intro w0 A c hv hc
  have hS := (St.sv w0).vcons rfl hv
  have hsx := fun w (hv : View w w.heap.size A (l.map u8v)) => six_c l.length A c l w hv rfl hb (by omega)
  obtain ⟨e1, e2, _⟩ := sx6 hl0 h6
  rw [e1, e2] at hsx
  refine ent (n := 63) Try.func85 rfl rfl ?_
  refine wp_seq_k ?_; intro K1 hK1
  refine wlit ?_
  refine wl_v (x_assign ev_c) ?_
  refine wl_v (x_assign (ev_cN 0)) ?_
  refine wl_e rfl ?_; intro K hK
  refine ow_alloc hS tz_28 rfl ?_
  clear hS; intro g0_2 w hg0_2 hS
  refine hK _ _ ?_; clear hK K
  refine wl_v (x_assign (ev_cN 0)) ?_
  refine wl_nil ?_
  refine then_n (hK1 _ _ ?_); clear hK1 K1
  refine wp_seq_k ?_; intro K2 hK2
  refine wlit ?_
  refine wl_v (x_move (tmS rfl rfl)) ?_
  refine wl_e rfl ?_; intro K hK
  refine ow_call Try.func20 rfl rfl (evs_cons (tmS rfl rfl) <| evs_nil) (hsx _ (viewV hS.ok 1 rfl)) ?_
  rintro e w ⟨rfl, hk⟩
  refine ⟨_, rfl, ?_⟩
  replace hS := hS.kept hk
  clear hk
  refine hK _ _ ?_; clear hK K
  refine wl_v (x_move (tmT rfl rfl)) ?_
  refine wl_v (x_ext (tmT rfl rfl) rfl) ?_
  refine wl_v (x_ext (tmT rfl rfl) rfl) ?_
  refine wl_v (x_assign (tmB rfl rfl)) ?_
  refine wl_v (x_assign (tmI rfl rfl)) ?_
  refine wl_nil ?_
  refine then_n (hK2 _ _ ?_); clear hK2 K2
  refine wp_seq_k ?_; intro K3 hK3
  refine wp_seq_k ?_; intro K4 hK4
  refine wlit ?_
  refine wl_v (x_move (tmI rfl rfl)) ?_
  refine wl_v (x_neq (tmI rfl rfl) (ev_cN 0)) ?_
  refine wl_nil ?_
  refine then_n (hK4 _ _ ?_); clear hK4 K4
  refine cnd (tm rfl) (fun hc0 => ?_) (fun hc0 => ?_)
  · exfalso
    simp at hc0
  try (exfalso; first | with_reducible exact absurd hc0 Bool.false_ne_true | with_reducible exact absurd hc0.symm Bool.false_ne_true | (simp only [nrm] at hc0; omega) | (simp at hc0; done))
  all_goals
   try simp only [nrm] at hc0
   refine wp_skip ?_
   refine then_n (hK3 _ _ ?_); clear hK3 K3
   refine wp_seq_k ?_; intro K5 hK5
   refine wp_seq_k ?_; intro K6 hK6
   refine wlit ?_
   refine wl_v (x_move (tmB rfl rfl)) ?_
   refine wl_nil ?_
   refine then_n (hK6 _ _ ?_); clear hK6 K6
   refine cnds (tm rfl) (fun hc1 => ?_) (fun hc1 => ?_)
   · exfalso
     simp at hc1
   try (exfalso; first | with_reducible exact absurd hc1 Bool.false_ne_true | with_reducible exact absurd hc1.symm Bool.false_ne_true | (simp only [nrm] at hc1; omega) | (simp at hc1; done))
   all_goals
    try simp only [nrm] at hc1
    refine wp_seq_k ?_; intro K7 hK7
    refine wlit ?_
    refine wl_v (x_move (tmS rfl rfl)) ?_
    refine wl_e rfl ?_; intro K hK
    refine ow_call Try.func136 rfl rfl (evs_cons (tmS rfl rfl) <| evs_nil) (hp _ A c (viewV hS.ok 1 rfl) hc) ?_
    rintro e w ⟨cl, lb, len, L, k, c', hkx, hkc, rfl, hn, hk⟩
    refine ⟨_, rfl, ?_⟩
    have hfr := (hn.back hS.kp).2
    replace hS := hS.addn hk hn -- +vx
    clear hn hk
    refine hK _ _ ?_; clear hK K
    refine wl_v (x_move (tmT rfl rfl)) ?_
    refine wl_v (x_ext (tmT rfl rfl) rfl) ?_
    refine wl_v (x_ext (tmT rfl rfl) rfl) ?_
    refine wl_v (x_ext (tmT rfl rfl) rfl) ?_
    refine wl_e rfl ?_; intro K hK
    refine ow_alloc hS tz_152 rfl ?_
    clear hS; intro g5_6 w hg5_6 hS
    refine hK _ _ ?_; clear hK K
    refine wl_e rfl ?_; intro K hK
    refine ow_storeA hS 0 rfl ts_152 (tmP rfl rfl) (tmA rfl rfl) rfl rfl rfl ?_
    clear hS; intro w hS
    try replace hS := St.nm (M' := [.blk _ _ [_, _, _, _, _, _, _, _, _, _, _], .vw _ _, .blk _ _ [_, _, _, _, _, _, _], .vw _ _]) hS rfl
    refine hK _ _ ?_; clear hK K
    refine wl_v (x_assign (tmS rfl rfl)) ?_
    refine wl_v (x_assign (tmI rfl rfl)) ?_
    refine wl_nil ?_
    refine then_n (hK7 _ _ ?_); clear hK7 K7
    refine wp_seq_k ?_; intro K8 hK8
    replace hS := hS.pick [2, 0, 1, 3] rfl rfl
    try replace hS := St.nm (M' := [.blk _ _ [_, _, _, _, _, _, _], .blk _ _ [_, _, _, _, _, _, _, _, _, _, _], .vw _ _, .vw _ _]) hS rfl
    refine rg_startk 1 hS mixed_ ?_
    clear hS; intro w hS
    refine rg_take 0 rfl rfl (by kernel_rfl) (by kernel_rfl) (by kernel_rfl) (want_0) (fun w hok => x_move (tmS rfl rfl)) ?_
    refine rg_take 1 rfl rfl (by kernel_rfl) (by kernel_rfl) (by kernel_rfl) (want_0) (fun w hok => x_fa 3 Try.underlying152 rfl rfl ts_5 (tmP rfl rfl)) ?_
    first
     | refine rg_take 2 rfl rfl (by kernel_rfl) (by kernel_rfl) (by kernel_rfl) (want_0) (fun w hok => x_load Try.underlying5 rfl (tmP rfl rfl) (cellB hok 0 rfl rfl)) ?_
     | refine rg_take 2 rfl rfl (by kernel_rfl) (by kernel_rfl) (by kernel_rfl) (want_0) (fun w hok => x_load Try.underlying5 rfl (tmP rfl rfl) (cellB hok 0 rfl (getm (by omega)))) ?_
    refine rg_take 3 rfl rfl (by kernel_rfl) (by kernel_rfl) (by kernel_rfl) (want_0) (fun w hok => x_fa 5 Try.underlying152 rfl rfl ts_26 (tmP rfl rfl)) ?_
    refine rg_take 4 rfl rfl (by kernel_rfl) (by kernel_rfl) (by kernel_rfl) (want_0) (fun w hok => x_loadA (cs := [_, _, _]) Try.underlying26 rfl ts_26 (tmP rfl rfl) (rangeB hok 0 rfl rfl)) ?_
    refine rg_take 5 rfl rfl (by kernel_rfl) (by kernel_rfl) (by kernel_rfl) (want_0) (fun w hok => x_fa 8 Try.underlying152 rfl rfl ts_26 (tmP rfl rfl)) ?_
    refine rg_take 6 rfl rfl (by kernel_rfl) (by kernel_rfl) (by kernel_rfl) (want_0) (fun w hok => x_loadA (cs := [_, _, _]) Try.underlying26 rfl ts_26 (tmP rfl rfl) (rangeB hok 0 rfl rfl)) ?_
    refine rg_take 7 rfl rfl (by kernel_rfl) (by kernel_rfl) (by kernel_rfl) (want_0) (fun w hok => x_fa 4 Try.underlying152 rfl rfl ts_5 (tmP rfl rfl)) ?_
    first
     | refine rg_take 8 rfl rfl (by kernel_rfl) (by kernel_rfl) (by kernel_rfl) (want_0) (fun w hok => x_load Try.underlying5 rfl (tmP rfl rfl) (cellB hok 0 rfl rfl)) ?_
     | refine rg_take 8 rfl rfl (by kernel_rfl) (by kernel_rfl) (by kernel_rfl) (want_0) (fun w hok => x_load Try.underlying5 rfl (tmP rfl rfl) (cellB hok 0 rfl (getm (by omega)))) ?_
    refine rg_take 9 rfl rfl (by kernel_rfl) (by kernel_rfl) (by kernel_rfl) (want_0) (fun w hok => x_build (bc_takeL (tmA rfl rfl) <| bc_takeL (tmA rfl rfl) <| bc_take (tmI rfl rfl) <| bc_nil) (by kernel_rfl)) ?_
    refine rg_take 10 rfl rfl (by kernel_rfl) (by kernel_rfl) (by kernel_rfl) (want_0) (fun w hok => x_move (tmI rfl rfl)) ?_
    refine rg_take 11 rfl rfl (by kernel_rfl) (by kernel_rfl) (by kernel_rfl) (want_0) (fun w hok => x_assign (tmS rfl rfl)) ?_
    refine rg_take 12 rfl rfl (by kernel_rfl) (by kernel_rfl) (by kernel_rfl) (want_0) (fun w hok => x_assign (tmI rfl rfl)) ?_
    refine rg_step 13 rfl (by kernel_rfl) (want_0) (oks_drop hS 1 rfl) ?_; intro K hK
    refine ow_storeA hS 0 rfl ts_28 (tmP rfl rfl) (tmA rfl rfl) rfl rfl rfl ?_
    clear hS; intro w hS
    try replace hS := St.nm (M' := [.blk _ _ [_, _, _, _, _, _, _], .blk _ _ [_, _, _, _, _, _, _, _, _, _, _], .vw _ _, .vw _ _]) hS rfl
    refine hK _ _ ?_; clear hK K
    refine rg_take 14 rfl rfl (by kernel_rfl) (by kernel_rfl) (by kernel_rfl) (want_0) (fun w hok => x_assign (tmI rfl rfl)) ?_
    refine rg_done (oks_drop hS 1 rfl) (by kernel_rfl) ?_
    refine then_n (hK8 _ _ ?_); clear hK8 K8
    refine wp_ret ?_
    refine then_r ?_
    refine ret4 rfl (.tmp rfl (show _ = Value.slice _ _ _ from rfl)) (.tmp rfl (show _ = Value.int _ _ from rfl)) (.cell rfl rfl (load_rowB (cs := [_, _, _, _, _, _, _]) hS.ok 0 rfl Try.underlying28 rfl ts_28 rfl)) (.tmp rfl (show _ = Value.int _ _ from rfl)) ?_
    exact ⟨L, k, c', hkx, hkc.resolve_left (by decide), rfl, ⟨viewV hS.ok 2 rfl, hfr⟩, hS.kp⟩

set_option maxRecDepth 100000 in
set_option maxHeartbeats 4000000 in
theorem outer4 {l x : List Nat} {pr ttl er : Nat} {s d : Ad} {more : Bool} {off : Nat} (hb : Bytes l) (hn4 : l.length ≤ 3000) (hl0 : l.length ≠ 0) (h4 : nth l 0 / 16 = 4) (her : er < 100) (hp : H4 94 l x pr ttl er s d more off) : HO l x pr ttl (fragE er (more || decide (0 < (off : Int)))) s d := by
  intro w0 A c hv hc
  have hS := (St.sv w0).vcons rfl hv
  have hsx := fun w (hv : View w w.heap.size A (l.map u8v)) => six_c l.length A c l w hv rfl hb (by omega)
  obtain ⟨e1, e2, _⟩ := sx4 hl0 h4
  rw [e1, e2] at hsx
  refine ent (n := 63) Try.func85 rfl rfl ?_
  refine wp_seq_k ?_; intro K1 hK1
  refine wlit ?_
  refine wl_v (x_assign ev_c) ?_
  refine wl_v (x_assign (ev_cN 0)) ?_
  refine wl_e rfl ?_; intro K hK
  refine ow_alloc hS tz_28 rfl ?_
  clear hS; intro g0_2 w hg0_2 hS
  refine hK _ _ ?_; clear hK K
  refine wl_v (x_assign (ev_cN 0)) ?_
  refine wl_nil ?_
  refine then_n (hK1 _ _ ?_); clear hK1 K1
  refine wp_seq_k ?_; intro K2 hK2
  refine wlit ?_
  refine wl_v (x_move (tmS rfl rfl)) ?_
  refine wl_e rfl ?_; intro K hK
  refine ow_call Try.func20 rfl rfl (evs_cons (tmS rfl rfl) <| evs_nil) (hsx _ (viewV hS.ok 1 rfl)) ?_
  rintro e w ⟨rfl, hk⟩
  refine ⟨_, rfl, ?_⟩
  replace hS := hS.kept hk
  clear hk
  refine hK _ _ ?_; clear hK K
  refine wl_v (x_move (tmT rfl rfl)) ?_
  refine wl_v (x_ext (tmT rfl rfl) rfl) ?_
  refine wl_v (x_ext (tmT rfl rfl) rfl) ?_
  refine wl_v (x_assign (tmB rfl rfl)) ?_
  refine wl_v (x_assign (tmI rfl rfl)) ?_
  refine wl_nil ?_
  refine then_n (hK2 _ _ ?_); clear hK2 K2
  refine wp_seq_k ?_; intro K3 hK3
  refine wp_seq_k ?_; intro K4 hK4
  refine wlit ?_
  refine wl_v (x_move (tmI rfl rfl)) ?_
  refine wl_v (x_neq (tmI rfl rfl) (ev_cN 0)) ?_
  refine wl_nil ?_
  refine then_n (hK4 _ _ ?_); clear hK4 K4
  refine cnd (tm rfl) (fun hc0 => ?_) (fun hc0 => ?_)
  · exfalso
    simp at hc0
  try (exfalso; first | with_reducible exact absurd hc0 Bool.false_ne_true | with_reducible exact absurd hc0.symm Bool.false_ne_true | (simp only [nrm] at hc0; omega) | (simp at hc0; done))
  all_goals
   try simp only [nrm] at hc0
   refine wp_skip ?_
   refine then_n (hK3 _ _ ?_); clear hK3 K3
   refine wp_seq_k ?_; intro K5 hK5
   refine wp_seq_k ?_; intro K6 hK6
   refine wlit ?_
   refine wl_v (x_move (tmB rfl rfl)) ?_
   refine wl_nil ?_
   refine then_n (hK6 _ _ ?_); clear hK6 K6
   refine cnd (tm rfl) (fun hc1 => ?_) (fun hc1 => ?_)
   · exfalso
     simp at hc1
   try (exfalso; first | with_reducible exact absurd hc1 Bool.false_ne_true | with_reducible exact absurd hc1.symm Bool.false_ne_true | (simp only [nrm] at hc1; omega) | (simp at hc1; done))
   all_goals
    try simp only [nrm] at hc1
    refine wp_skip ?_
    refine then_n (hK5 _ _ ?_); clear hK5 K5
    refine wp_seq_k ?_; intro K7 hK7
    refine wlit ?_
    refine wl_v (x_move (tmS rfl rfl)) ?_
    refine wl_e rfl ?_; intro K hK
    refine ow_call Try.func94 rfl rfl (evs_cons (tmS rfl rfl) <| evs_nil) (hp _ A c (viewV hS.ok 1 rfl) hc) ?_
    rintro e w ⟨tos, len, id_, stay, sum, O, m, co, L, k, c', hkx, hkc, hm, rfl, hn, hk⟩
    refine ⟨_, rfl, ?_⟩
    have hfr := (hn.back hS.kp).2
    replace hS := hS.addn hk hn -- +vx
    clear hn hk
    refine hK _ _ ?_; clear hK K
    refine wl_v (x_move (tmT rfl rfl)) ?_
    refine wl_v (x_ext (tmT rfl rfl) rfl) ?_
    refine wl_v (x_ext (tmT rfl rfl) rfl) ?_
    refine wl_v (x_ext (tmT rfl rfl) rfl) ?_
    refine wl_e rfl ?_; intro K hK
    refine ow_alloc hS tz_138 rfl ?_
    clear hS; intro g7_6 w hg7_6 hS
    refine hK _ _ ?_; clear hK K
    refine wl_e rfl ?_; intro K hK
    refine ow_storeA hS 0 rfl ts_138 (tmP rfl rfl) (tmA rfl rfl) rfl rfl rfl ?_
    clear hS; intro w hS
    try replace hS := St.nm (M' := [.blk _ _ [_, _, _, _, _, _, _, _, _, _, _, _, _, _, _, _], .vw _ _, .blk _ _ [_, _, _, _, _, _, _], .vw _ _]) hS rfl
    refine hK _ _ ?_; clear hK K
    refine wl_v (x_assign (tmS rfl rfl)) ?_
    refine wl_v (x_assign (tmI rfl rfl)) ?_
    refine wl_nil ?_
    refine then_n (hK7 _ _ ?_); clear hK7 K7
    refine wp_seq_k ?_; intro K8 hK8
    refine wp_seq_k ?_; intro K9 hK9
    refine wlit ?_
    refine wl_v (x_move (tmI rfl rfl)) ?_
    refine wl_v (x_eql (tmI rfl rfl) (ev_cN 0)) ?_
    refine wl_v (x_move (tmB rfl rfl)) ?_
    refine gs_wl (tm (t := 48) rfl) (fun hg8_2 => ?_) (fun hg8_2 => ?_)
    · have hg8_2' := hg8_2; (try simp only [nrm] at hg8_2'); try (exfalso; first | with_reducible exact absurd hg8_2 Bool.false_ne_true | with_reducible exact absurd hg8_2.symm Bool.false_ne_true | omega | (simp at hg8_2; done))
      all_goals
       refine wl_gv (want_y rfl rfl rfl rfl (by rw [hg8_2]; rfl)) (x_loadA (cs := [_, _, _, _, _, _, _, _, _, _, _, _, _, _, _, _]) Try.underlying138 rfl ts_138 (tmP rfl rfl) (rangeB hS.ok 0 rfl rfl)) ?_
       refine wl_g (want_y rfl rfl rfl rfl (by rw [hg8_2]; rfl)) ?_; intro K hK
       refine ow_call Try.func137 rfl rfl (evs_cons (tmA rfl rfl) <| evs_nil) (ip4_frag_c tos len id_ stay more (off : Int) ttl pr sum s d O m co _ hm) ?_
       rintro e w ⟨rfl, hk⟩
       refine ⟨_, rfl, ?_⟩
       replace hS := hS.kept hk
       clear hk
       refine hK _ _ ?_; clear hK K
       refine wl_v (x_pickT (tmB rfl rfl) hg8_2 (tmB rfl rfl)) ?_
       refine wl_nil ?_
       refine then_n (hK9 _ _ ?_); clear hK9 K9
       refine cnd (tm rfl) (fun hc2 => ?_) (fun hc2 => ?_)
       · try (exfalso; first | with_reducible exact absurd hc2 Bool.false_ne_true | with_reducible exact absurd hc2.symm Bool.false_ne_true | (simp only [nrm] at hc2; omega) | (simp at hc2; done))
         all_goals
          try simp only [nrm] at hc2
          refine wlit ?_
          refine wl_v (x_assign (ev_cN 21)) ?_
          refine wl_nil ?_
          refine then_n (hK8 _ _ ?_); clear hK8 K8
          refine wp_seq_k ?_; intro K10 hK10
          replace hS := hS.pick [2, 0, 1, 3] rfl rfl
          try replace hS := St.nm (M' := [.blk _ _ [_, _, _, _, _, _, _], .blk _ _ [_, _, _, _, _, _, _, _, _, _, _, _, _, _, _, _], .vw _ _, .vw _ _]) hS rfl
          refine rg_startk 1 hS mixed_ ?_
          clear hS; intro w hS
          refine rg_take 0 rfl rfl (by kernel_rfl) (by kernel_rfl) (by kernel_rfl) (want_0) (fun w hok => x_move (tmS rfl rfl)) ?_
          refine rg_take 1 rfl rfl (by kernel_rfl) (by kernel_rfl) (by kernel_rfl) (want_0) (fun w hok => x_fa 7 Try.underlying138 rfl rfl ts_5 (tmP rfl rfl)) ?_
          first
           | refine rg_take 2 rfl rfl (by kernel_rfl) (by kernel_rfl) (by kernel_rfl) (want_0) (fun w hok => x_load Try.underlying5 rfl (tmP rfl rfl) (cellB hok 0 rfl rfl)) ?_
           | refine rg_take 2 rfl rfl (by kernel_rfl) (by kernel_rfl) (by kernel_rfl) (want_0) (fun w hok => x_load Try.underlying5 rfl (tmP rfl rfl) (cellB hok 0 rfl (getm (by omega)))) ?_
          refine rg_take 3 rfl rfl (by kernel_rfl) (by kernel_rfl) (by kernel_rfl) (want_0) (fun w hok => x_fa 9 Try.underlying138 rfl rfl ts_26 (tmP rfl rfl)) ?_
          refine rg_take 4 rfl rfl (by kernel_rfl) (by kernel_rfl) (by kernel_rfl) (want_0) (fun w hok => x_loadA (cs := [_, _, _]) Try.underlying26 rfl ts_26 (tmP rfl rfl) (rangeB hok 0 rfl rfl)) ?_
          refine rg_take 5 rfl rfl (by kernel_rfl) (by kernel_rfl) (by kernel_rfl) (want_0) (fun w hok => x_fa 12 Try.underlying138 rfl rfl ts_26 (tmP rfl rfl)) ?_
          refine rg_take 6 rfl rfl (by kernel_rfl) (by kernel_rfl) (by kernel_rfl) (want_0) (fun w hok => x_loadA (cs := [_, _, _]) Try.underlying26 rfl ts_26 (tmP rfl rfl) (rangeB hok 0 rfl rfl)) ?_
          refine rg_take 7 rfl rfl (by kernel_rfl) (by kernel_rfl) (by kernel_rfl) (want_0) (fun w hok => x_fa 6 Try.underlying138 rfl rfl ts_5 (tmP rfl rfl)) ?_
          first
           | refine rg_take 8 rfl rfl (by kernel_rfl) (by kernel_rfl) (by kernel_rfl) (want_0) (fun w hok => x_load Try.underlying5 rfl (tmP rfl rfl) (cellB hok 0 rfl rfl)) ?_
           | refine rg_take 8 rfl rfl (by kernel_rfl) (by kernel_rfl) (by kernel_rfl) (want_0) (fun w hok => x_load Try.underlying5 rfl (tmP rfl rfl) (cellB hok 0 rfl (getm (by omega)))) ?_
          refine rg_take 9 rfl rfl (by kernel_rfl) (by kernel_rfl) (by kernel_rfl) (want_0) (fun w hok => x_build (bc_takeL (tmA rfl rfl) <| bc_takeL (tmA rfl rfl) <| bc_take (tmI rfl rfl) <| bc_nil) (by kernel_rfl)) ?_
          refine rg_take 10 rfl rfl (by kernel_rfl) (by kernel_rfl) (by kernel_rfl) (want_0) (fun w hok => x_move (tmI rfl rfl)) ?_
          refine rg_take 11 rfl rfl (by kernel_rfl) (by kernel_rfl) (by kernel_rfl) (want_0) (fun w hok => x_assign (tmS rfl rfl)) ?_
          refine rg_take 12 rfl rfl (by kernel_rfl) (by kernel_rfl) (by kernel_rfl) (want_0) (fun w hok => x_assign (tmI rfl rfl)) ?_
          refine rg_step 13 rfl (by kernel_rfl) (want_0) (oks_drop hS 1 rfl) ?_; intro K hK
          refine ow_storeA hS 0 rfl ts_28 (tmP rfl rfl) (tmA rfl rfl) rfl rfl rfl ?_
          clear hS; intro w hS
          try replace hS := St.nm (M' := [.blk _ _ [_, _, _, _, _, _, _], .blk _ _ [_, _, _, _, _, _, _, _, _, _, _, _, _, _, _, _], .vw _ _, .vw _ _]) hS rfl
          refine hK _ _ ?_; clear hK K
          refine rg_take 14 rfl rfl (by kernel_rfl) (by kernel_rfl) (by kernel_rfl) (want_0) (fun w hok => x_assign (tmI rfl rfl)) ?_
          refine rg_done (oks_drop hS 1 rfl) (by kernel_rfl) ?_
          refine then_n (hK10 _ _ ?_); clear hK10 K10
          refine wp_ret ?_
          refine ret4 rfl (.tmp rfl (show _ = Value.slice _ _ _ from rfl)) (.tmp rfl (show _ = Value.int _ _ from rfl)) (.cell rfl rfl (load_rowB (cs := [_, _, _, _, _, _, _]) hS.ok 0 rfl Try.underlying28 rfl ts_28 rfl)) (.tmp rfl (show _ = Value.int _ _ from rfl)) ?_
          refine ⟨L, k, c', hkx, hkc.resolve_left (by decide), ?_, ⟨viewV hS.ok 2 rfl, hfr⟩, hS.kp⟩
          clear hS
          first
            | (rw [show fragE er (more || decide (0 < (off : Int))) = 21 from if_pos ⟨by omega, by simpa using hc2⟩]; rfl)
            | (rw [show fragE er (more || decide (0 < (off : Int))) = er from if_neg (fun h => by have := h.1; omega)]; rfl)
            | (rw [show fragE er (more || decide (0 < (off : Int))) = er from if_neg (fun h => by have := h.2; simp_all)]; rfl)
       try (exfalso; first | with_reducible exact absurd hc2 Bool.false_ne_true | with_reducible exact absurd hc2.symm Bool.false_ne_true | (simp only [nrm] at hc2; omega) | (simp at hc2; done))
       all_goals
        try simp only [nrm] at hc2
        refine wp_skip ?_
        refine then_n (hK8 _ _ ?_); clear hK8 K8
        refine wp_seq_k ?_; intro K12 hK12
        replace hS := hS.pick [2, 0, 1, 3] rfl rfl
        try replace hS := St.nm (M' := [.blk _ _ [_, _, _, _, _, _, _], .blk _ _ [_, _, _, _, _, _, _, _, _, _, _, _, _, _, _, _], .vw _ _, .vw _ _]) hS rfl
        refine rg_startk 1 hS mixed_ ?_
        clear hS; intro w hS
        refine rg_take 0 rfl rfl (by kernel_rfl) (by kernel_rfl) (by kernel_rfl) (want_0) (fun w hok => x_move (tmS rfl rfl)) ?_
        refine rg_take 1 rfl rfl (by kernel_rfl) (by kernel_rfl) (by kernel_rfl) (want_0) (fun w hok => x_fa 7 Try.underlying138 rfl rfl ts_5 (tmP rfl rfl)) ?_
        first
         | refine rg_take 2 rfl rfl (by kernel_rfl) (by kernel_rfl) (by kernel_rfl) (want_0) (fun w hok => x_load Try.underlying5 rfl (tmP rfl rfl) (cellB hok 0 rfl rfl)) ?_
         | refine rg_take 2 rfl rfl (by kernel_rfl) (by kernel_rfl) (by kernel_rfl) (want_0) (fun w hok => x_load Try.underlying5 rfl (tmP rfl rfl) (cellB hok 0 rfl (getm (by omega)))) ?_
        refine rg_take 3 rfl rfl (by kernel_rfl) (by kernel_rfl) (by kernel_rfl) (want_0) (fun w hok => x_fa 9 Try.underlying138 rfl rfl ts_26 (tmP rfl rfl)) ?_
        refine rg_take 4 rfl rfl (by kernel_rfl) (by kernel_rfl) (by kernel_rfl) (want_0) (fun w hok => x_loadA (cs := [_, _, _]) Try.underlying26 rfl ts_26 (tmP rfl rfl) (rangeB hok 0 rfl rfl)) ?_
        refine rg_take 5 rfl rfl (by kernel_rfl) (by kernel_rfl) (by kernel_rfl) (want_0) (fun w hok => x_fa 12 Try.underlying138 rfl rfl ts_26 (tmP rfl rfl)) ?_
        refine rg_take 6 rfl rfl (by kernel_rfl) (by kernel_rfl) (by kernel_rfl) (want_0) (fun w hok => x_loadA (cs := [_, _, _]) Try.underlying26 rfl ts_26 (tmP rfl rfl) (rangeB hok 0 rfl rfl)) ?_
        refine rg_take 7 rfl rfl (by kernel_rfl) (by kernel_rfl) (by kernel_rfl) (want_0) (fun w hok => x_fa 6 Try.underlying138 rfl rfl ts_5 (tmP rfl rfl)) ?_
        first
         | refine rg_take 8 rfl rfl (by kernel_rfl) (by kernel_rfl) (by kernel_rfl) (want_0) (fun w hok => x_load Try.underlying5 rfl (tmP rfl rfl) (cellB hok 0 rfl rfl)) ?_
         | refine rg_take 8 rfl rfl (by kernel_rfl) (by kernel_rfl) (by kernel_rfl) (want_0) (fun w hok => x_load Try.underlying5 rfl (tmP rfl rfl) (cellB hok 0 rfl (getm (by omega)))) ?_
        refine rg_take 9 rfl rfl (by kernel_rfl) (by kernel_rfl) (by kernel_rfl) (want_0) (fun w hok => x_build (bc_takeL (tmA rfl rfl) <| bc_takeL (tmA rfl rfl) <| bc_take (tmI rfl rfl) <| bc_nil) (by kernel_rfl)) ?_
        refine rg_take 10 rfl rfl (by kernel_rfl) (by kernel_rfl) (by kernel_rfl) (want_0) (fun w hok => x_move (tmI rfl rfl)) ?_
        refine rg_take 11 rfl rfl (by kernel_rfl) (by kernel_rfl) (by kernel_rfl) (want_0) (fun w hok => x_assign (tmS rfl rfl)) ?_
        refine rg_take 12 rfl rfl (by kernel_rfl) (by kernel_rfl) (by kernel_rfl) (want_0) (fun w hok => x_assign (tmI rfl rfl)) ?_
        refine rg_step 13 rfl (by kernel_rfl) (want_0) (oks_drop hS 1 rfl) ?_; intro K hK
        refine ow_storeA hS 0 rfl ts_28 (tmP rfl rfl) (tmA rfl rfl) rfl rfl rfl ?_
        clear hS; intro w hS
        try replace hS := St.nm (M' := [.blk _ _ [_, _, _, _, _, _, _], .blk _ _ [_, _, _, _, _, _, _, _, _, _, _, _, _, _, _, _], .vw _ _, .vw _ _]) hS rfl
        refine hK _ _ ?_; clear hK K
        refine rg_take 14 rfl rfl (by kernel_rfl) (by kernel_rfl) (by kernel_rfl) (want_0) (fun w hok => x_assign (tmI rfl rfl)) ?_
        refine rg_done (oks_drop hS 1 rfl) (by kernel_rfl) ?_
        refine then_n (hK12 _ _ ?_); clear hK12 K12
        refine wp_ret ?_
        refine ret4 rfl (.tmp rfl (show _ = Value.slice _ _ _ from rfl)) (.tmp rfl (show _ = Value.int _ _ from rfl)) (.cell rfl rfl (load_rowB (cs := [_, _, _, _, _, _, _]) hS.ok 0 rfl Try.underlying28 rfl ts_28 rfl)) (.tmp rfl (show _ = Value.int _ _ from rfl)) ?_
        refine ⟨L, k, c', hkx, hkc.resolve_left (by decide), ?_, ⟨viewV hS.ok 2 rfl, hfr⟩, hS.kp⟩
        clear hS
        first
          | (rw [show fragE er (more || decide (0 < (off : Int))) = 21 from if_pos ⟨by omega, by simpa using hc2⟩]; rfl)
          | (rw [show fragE er (more || decide (0 < (off : Int))) = er from if_neg (fun h => by have := h.1; omega)]; rfl)
          | (rw [show fragE er (more || decide (0 < (off : Int))) = er from if_neg (fun h => by have := h.2; simp_all)]; rfl)
    have hg8_2' := hg8_2; (try simp only [nrm] at hg8_2'); try (exfalso; first | with_reducible exact absurd hg8_2 Bool.false_ne_true | with_reducible exact absurd hg8_2.symm Bool.false_ne_true | omega | (simp at hg8_2; done))
    all_goals
     refine wl_s rfl (want_n rfl rfl rfl rfl (by rw [hg8_2]; rfl)) ?_
     refine wl_s rfl (want_n rfl rfl rfl rfl (by rw [hg8_2]; rfl)) ?_
     refine wl_v (x_pickF (tmB rfl rfl) hg8_2 ev_c) ?_
     refine wl_nil ?_
     refine then_n (hK9 _ _ ?_); clear hK9 K9
     refine cnd_f (tmB rfl rfl) rfl ?_
     refine wp_skip ?_
     refine then_n (hK8 _ _ ?_); clear hK8 K8
     refine wp_seq_k ?_; intro K14 hK14
     replace hS := hS.pick [2, 0, 1, 3] rfl rfl
     try replace hS := St.nm (M' := [.blk _ _ [_, _, _, _, _, _, _], .blk _ _ [_, _, _, _, _, _, _, _, _, _, _, _, _, _, _, _], .vw _ _, .vw _ _]) hS rfl
     refine rg_startk 1 hS mixed_ ?_
     clear hS; intro w hS
     refine rg_take 0 rfl rfl (by kernel_rfl) (by kernel_rfl) (by kernel_rfl) (want_0) (fun w hok => x_move (tmS rfl rfl)) ?_
     refine rg_take 1 rfl rfl (by kernel_rfl) (by kernel_rfl) (by kernel_rfl) (want_0) (fun w hok => x_fa 7 Try.underlying138 rfl rfl ts_5 (tmP rfl rfl)) ?_
     first
      | refine rg_take 2 rfl rfl (by kernel_rfl) (by kernel_rfl) (by kernel_rfl) (want_0) (fun w hok => x_load Try.underlying5 rfl (tmP rfl rfl) (cellB hok 0 rfl rfl)) ?_
      | refine rg_take 2 rfl rfl (by kernel_rfl) (by kernel_rfl) (by kernel_rfl) (want_0) (fun w hok => x_load Try.underlying5 rfl (tmP rfl rfl) (cellB hok 0 rfl (getm (by omega)))) ?_
     refine rg_take 3 rfl rfl (by kernel_rfl) (by kernel_rfl) (by kernel_rfl) (want_0) (fun w hok => x_fa 9 Try.underlying138 rfl rfl ts_26 (tmP rfl rfl)) ?_
     refine rg_take 4 rfl rfl (by kernel_rfl) (by kernel_rfl) (by kernel_rfl) (want_0) (fun w hok => x_loadA (cs := [_, _, _]) Try.underlying26 rfl ts_26 (tmP rfl rfl) (rangeB hok 0 rfl rfl)) ?_
     refine rg_take 5 rfl rfl (by kernel_rfl) (by kernel_rfl) (by kernel_rfl) (want_0) (fun w hok => x_fa 12 Try.underlying138 rfl rfl ts_26 (tmP rfl rfl)) ?_
     refine rg_take 6 rfl rfl (by kernel_rfl) (by kernel_rfl) (by kernel_rfl) (want_0) (fun w hok => x_loadA (cs := [_, _, _]) Try.underlying26 rfl ts_26 (tmP rfl rfl) (rangeB hok 0 rfl rfl)) ?_
     refine rg_take 7 rfl rfl (by kernel_rfl) (by kernel_rfl) (by kernel_rfl) (want_0) (fun w hok => x_fa 6 Try.underlying138 rfl rfl ts_5 (tmP rfl rfl)) ?_
     first
      | refine rg_take 8 rfl rfl (by kernel_rfl) (by kernel_rfl) (by kernel_rfl) (want_0) (fun w hok => x_load Try.underlying5 rfl (tmP rfl rfl) (cellB hok 0 rfl rfl)) ?_
      | refine rg_take 8 rfl rfl (by kernel_rfl) (by kernel_rfl) (by kernel_rfl) (want_0) (fun w hok => x_load Try.underlying5 rfl (tmP rfl rfl) (cellB hok 0 rfl (getm (by omega)))) ?_
     refine rg_take 9 rfl rfl (by kernel_rfl) (by kernel_rfl) (by kernel_rfl) (want_0) (fun w hok => x_build (bc_takeL (tmA rfl rfl) <| bc_takeL (tmA rfl rfl) <| bc_take (tmI rfl rfl) <| bc_nil) (by kernel_rfl)) ?_
     refine rg_take 10 rfl rfl (by kernel_rfl) (by kernel_rfl) (by kernel_rfl) (want_0) (fun w hok => x_move (tmI rfl rfl)) ?_
     refine rg_take 11 rfl rfl (by kernel_rfl) (by kernel_rfl) (by kernel_rfl) (want_0) (fun w hok => x_assign (tmS rfl rfl)) ?_
     refine rg_take 12 rfl rfl (by kernel_rfl) (by kernel_rfl) (by kernel_rfl) (want_0) (fun w hok => x_assign (tmI rfl rfl)) ?_
     refine rg_step 13 rfl (by kernel_rfl) (want_0) (oks_drop hS 1 rfl) ?_; intro K hK
     refine ow_storeA hS 0 rfl ts_28 (tmP rfl rfl) (tmA rfl rfl) rfl rfl rfl ?_
     clear hS; intro w hS
     try replace hS := St.nm (M' := [.blk _ _ [_, _, _, _, _, _, _], .blk _ _ [_, _, _, _, _, _, _, _, _, _, _, _, _, _, _, _], .vw _ _, .vw _ _]) hS rfl
     refine hK _ _ ?_; clear hK K
     refine rg_take 14 rfl rfl (by kernel_rfl) (by kernel_rfl) (by kernel_rfl) (want_0) (fun w hok => x_assign (tmI rfl rfl)) ?_
     refine rg_done (oks_drop hS 1 rfl) (by kernel_rfl) ?_
     refine then_n (hK14 _ _ ?_); clear hK14 K14
     refine wp_ret ?_
     refine ret4 rfl (.tmp rfl (show _ = Value.slice _ _ _ from rfl)) (.tmp rfl (show _ = Value.int _ _ from rfl)) (.cell rfl rfl (load_rowB (cs := [_, _, _, _, _, _, _]) hS.ok 0 rfl Try.underlying28 rfl ts_28 rfl)) (.tmp rfl (show _ = Value.int _ _ from rfl)) ?_
     refine ⟨L, k, c', hkx, hkc.resolve_left (by decide), ?_, ⟨viewV hS.ok 2 rfl, hfr⟩, hS.kp⟩
     clear hS
     first
       | (rw [show fragE er (more || decide (0 < (off : Int))) = 21 from if_pos ⟨by omega, by simpa using hc2⟩]; rfl)
       | (rw [show fragE er (more || decide (0 < (off : Int))) = er from if_neg (fun h => by have := h.1; omega)]; rfl)
       | (rw [show fragE er (more || decide (0 < (off : Int))) = er from if_neg (fun h => by have := h.2; simp_all)]; rfl)

def finE (er pr : Nat) (x : List Nat) : Nat := if er ≠ 0 then er else if pr ≠ 4 ∧ pr ≠ 41 then 6 else if sixE x ≠ 0 then sixE x else if pr = cond (decide (sixP x)) 41 4 then 0 else 21
theorem fin1 {er pr : Nat} {x : List Nat} (h : er ≠ 0) : finE er pr x = er := if_pos h
theorem fin2 {er pr : Nat} {x : List Nat} (h : er = 0) (h1 : pr ≠ 4) (h2 : pr ≠ 41) : finE er pr x = 6 := by unfold finE; rw [if_neg (by omega), if_pos ⟨h1, h2⟩]
theorem fin3 {er pr : Nat} {x : List Nat} (h : er = 0) (h1 : pr = 4 ∨ pr = 41) (h2 : sixE x ≠ 0) : finE er pr x = sixE x := by unfold finE; rw [if_neg (by omega), if_neg (by omega), if_pos h2]
theorem fin4 {er pr : Nat} {x : List Nat} (h : er = 0) (h1 : pr = 4 ∨ pr = 41) (h2 : sixE x = 0) (h3 : pr ≠ cond (decide (sixP x)) 41 4) : finE er pr x = 21 := by unfold finE; rw [if_neg (by omega), if_neg (by omega), if_neg (by omega), if_neg h3]
theorem fin5 {er pr : Nat} {x : List Nat} (h : er = 0) (h1 : pr = 4 ∨ pr = 41) (h2 : sixE x = 0) (h3 : pr = cond (decide (sixP x)) 41 4) : finE er pr x = 0 := by unfold finE; rw [if_neg (by omega), if_neg (by omega), if_neg (by omega), if_pos h3]
/-- What Unwrap answers to bytes l. -/
def HU (fn : Nat) (l x : List Nat) (pr ttl er : Nat) (s d : Ad) : Prop := ∀ (w : World) (A : Option Addr) (c : Nat), View w w.heap.size A (l.map u8v) → l.length ≤ c → Calls Try.prog fn #[.slice A l.length c] w fun e w' => (∃ (L : Option Addr) (k c' : Nat), finE er pr x = 0 ∧ k = x.length ∧ (fn = 19 ∨ k ≤ c') ∧ e = .returned (.tuple #[.slice L k c', .agg (wayV s d ttl).toArray, .int .i64 0]) ∧ NewV w w' L (x.map u8v) ∧ Kp [] w w') ∨
  (finE er pr x ≠ 0 ∧ e = .returned (.tuple #[.slice none 0 0, .agg (wayV ad0_ ad0_ 0).toArray, .int .i64 (finE er pr x : Int)]) ∧ Kp [] w w')

set_option maxRecDepth 100000 in
set_option maxHeartbeats 4000000 in
theorem unwrap_c {l x : List Nat} {pr ttl er : Nat} {s d : Ad} (hxb : Bytes x) (hx3 : x.length ≤ 3000) (hpr : pr < 256) (her : er < 100) (ho : HO l x pr ttl er s d) : HU 18 l x pr ttl er s d := by
  intro w0 A c hv hc
  have hS := (St.sv w0).vcons rfl hv
  have hsb : sixE x ≤ 21 := by unfold sixE; split <;> (try split) <;> omega
  have hsx := fun w L c' (hv : View w w.heap.size L (x.map u8v)) => six_c x.length L c' x w hv rfl hxb (by omega)
  have f3 := @fin3 er pr x
  have f4 := @fin4 er pr x
  have f5 := @fin5 er pr x
  obtain ⟨E, hE⟩ : ∃ E, sixE x = E := ⟨_, rfl⟩
  obtain ⟨B, hB⟩ : ∃ B, decide (sixP x) = B := ⟨_, rfl⟩
  rw [hE] at hsb f3 f4 f5
  rw [hB] at f4 f5
  simp only [hE, hB] at hsx
  refine ent (n := 44) Try.func18 rfl rfl ?_
  refine wp_seq_k ?_; intro K1 hK1
  refine wlit ?_
  refine wl_v (x_assign ev_c) ?_
  refine wl_e rfl ?_; intro K hK
  refine ow_alloc hS tz_28 rfl ?_
  clear hS; intro g0_1 w hg0_1 hS
  refine hK _ _ ?_; clear hK K
  refine wl_v (x_assign (ev_cN 0)) ?_
  refine wl_nil ?_
  refine then_n (hK1 _ _ ?_); clear hK1 K1
  refine wp_seq_k ?_; intro K2 hK2
  refine wlit ?_
  refine wl_v (x_move (tmS rfl rfl)) ?_
  refine wl_e rfl ?_; intro K hK
  refine ow_call Try.func85 rfl rfl (evs_cons (tmS rfl rfl) <| evs_nil) (ho _ A c (viewV hS.ok 1 rfl) hc) ?_
  rintro e w ⟨L, k, c', rfl, hkc, rfl, hn, hk⟩
  refine ⟨_, rfl, ?_⟩
  have hfr := (hn.back hS.kp).2
  replace hS := hS.addn hk hn -- +vx
  clear hn hk
  refine hK _ _ ?_; clear hK K
  refine wl_v (x_move (tmT rfl rfl)) ?_
  refine wl_v (x_ext (tmT rfl rfl) rfl) ?_
  refine wl_v (x_ext (tmT rfl rfl) rfl) ?_
  refine wl_v (x_ext (tmT rfl rfl) rfl) ?_
  refine wl_v (x_ext (tmT rfl rfl) rfl) ?_
  refine wl_e rfl ?_; intro K hK
  refine ow_alloc hS tz_28 rfl ?_
  clear hS; intro g1_7 w hg1_7 hS
  refine hK _ _ ?_; clear hK K
  refine wl_v (x_assign (tmS rfl rfl)) ?_
  refine wl_v (x_assign (tmI rfl rfl)) ?_
  refine wl_e rfl ?_; intro K hK
  refine ow_storeA hS 0 rfl ts_28 (tmP rfl rfl) (tmA rfl rfl) rfl rfl rfl ?_
  clear hS; intro w hS
  try replace hS := St.nm (M' := [.blk _ _ [_, _, _, _, _, _, _], .vw _ _, .blk _ _ [_, _, _, _, _, _, _], .vw _ _]) hS rfl
  refine hK _ _ ?_; clear hK K
  refine wl_v (x_assign (tmI rfl rfl)) ?_
  refine wl_nil ?_
  refine then_n (hK2 _ _ ?_); clear hK2 K2
  refine wp_seq_k ?_; intro K3 hK3
  refine wp_seq_k ?_; intro K4 hK4
  refine wlit ?_
  refine wl_v (x_move (tmI rfl rfl)) ?_
  refine wl_v (x_neq (tmI rfl rfl) (ev_cN 0)) ?_
  refine wl_nil ?_
  refine then_n (hK4 _ _ ?_); clear hK4 K4
  refine cnd (tm rfl) (fun hc0 => ?_) (fun hc0 => ?_)
  · try (exfalso; first | with_reducible exact absurd hc0 Bool.false_ne_true | with_reducible exact absurd hc0.symm Bool.false_ne_true | (simp only [nrm] at hc0; omega) | (simp at hc0; done))
    all_goals
     try simp only [nrm] at hc0
     refine wp_seq_k ?_; intro K5 hK5
     refine wlit ?_
     refine wl_v (x_build (bc_skipL [.bool false, .int .u64 0, .int .u64 0] <| bc_skipL [.bool false, .int .u64 0, .int .u64 0] <| bc_skip (.int .u8 0) <| bc_nil) (by kernel_rfl)) ?_
     refine wl_v (x_move (tmI rfl rfl)) ?_
     refine wl_v (x_assign ev_c) ?_
     refine wl_e rfl ?_; intro K hK
     refine ow_storeA hS 2 rfl ts_28 (tmP rfl rfl) (tmA rfl rfl) rfl rfl rfl ?_
     clear hS; intro w hS
     try replace hS := St.nm (M' := [.blk _ _ [_, _, _, _, _, _, _], .vw _ _, .blk _ _ [_, _, _, _, _, _, _], .vw _ _]) hS rfl
     refine hK _ _ ?_; clear hK K
     refine wl_v (x_assign (tmI rfl rfl)) ?_
     refine wl_nil ?_
     refine then_n (hK5 _ _ ?_); clear hK5 K5
     refine wp_ret ?_
     refine then_r ?_
     refine ret3 rfl (.tmp rfl (show _ = Value.slice _ _ _ from rfl)) (.cell rfl rfl (load_rowB (cs := [_, _, _, _, _, _, _]) hS.ok 2 rfl Try.underlying28 rfl ts_28 rfl)) (.tmp rfl (show _ = Value.int _ _ from rfl)) ?_
     first
       | (right; rw [fin1 (by omega)]; exact ⟨by omega, rfl, hS.kp⟩)
       | (right; rw [fin2 (by omega) (by omega) (by omega)]; exact ⟨by omega, rfl, hS.kp⟩)
       | (right; rw [f3 (by omega) (by omega) (by omega)]; exact ⟨by omega, rfl, hS.kp⟩)
       | (right; rw [f4 (by omega) (by omega) (by omega) (by omega)]; exact ⟨by omega, rfl, hS.kp⟩)
       | (left; exact ⟨L, _, c', f5 (by omega) (by omega) (by omega) (by omega), rfl, .inr hkc, rfl, ⟨viewV hS.ok 1 rfl, hfr⟩, hS.kp⟩)
  try (exfalso; first | with_reducible exact absurd hc0 Bool.false_ne_true | with_reducible exact absurd hc0.symm Bool.false_ne_true | (simp only [nrm] at hc0; omega) | (simp at hc0; done))
  all_goals
   try simp only [nrm] at hc0
   refine wp_skip ?_
   refine then_n (hK3 _ _ ?_); clear hK3 K3
   refine wp_seq_k ?_; intro K7 hK7
   refine wp_seq_k ?_; intro K8 hK8
   refine wlit ?_
   refine wl_v (x_move (tmI rfl rfl)) ?_
   refine wl_v (x_neq (tmI rfl rfl) (ev_cN 4)) ?_
   refine wl_v (x_move (tmB rfl rfl)) ?_
   refine gs_wl (tm (t := 23) rfl) (fun hg4_2 => ?_) (fun hg4_2 => ?_)
   · have hg4_2' := hg4_2; (try simp only [nrm] at hg4_2'); try (exfalso; first | with_reducible exact absurd hg4_2 Bool.false_ne_true | with_reducible exact absurd hg4_2.symm Bool.false_ne_true | omega | (simp at hg4_2; done))
     all_goals
      refine wl_gv (want_y rfl rfl rfl rfl (by rw [hg4_2]; rfl)) (x_move (tmI rfl rfl)) ?_
      refine wl_gv (want_y rfl rfl rfl rfl (by rw [hg4_2]; rfl)) (x_neq (tmI rfl rfl) (ev_cN 41)) ?_
      refine wl_v (x_pickT (tmB rfl rfl) hg4_2 (tmB rfl rfl)) ?_
      refine wl_nil ?_
      refine then_n (hK8 _ _ ?_); clear hK8 K8
      refine cnd (tm rfl) (fun hc1 => ?_) (fun hc1 => ?_)
      · try (exfalso; first | with_reducible exact absurd hc1 Bool.false_ne_true | with_reducible exact absurd hc1.symm Bool.false_ne_true | (simp only [nrm] at hc1; omega) | (simp at hc1; done))
        all_goals
         try simp only [nrm] at hc1
         refine wp_seq_k ?_; intro K9 hK9
         refine wlit ?_
         refine wl_v (x_build (bc_skipL [.bool false, .int .u64 0, .int .u64 0] <| bc_skipL [.bool false, .int .u64 0, .int .u64 0] <| bc_skip (.int .u8 0) <| bc_nil) (by kernel_rfl)) ?_
         refine wl_v (x_assign ev_c) ?_
         refine wl_e rfl ?_; intro K hK
         refine ow_storeA hS 2 rfl ts_28 (tmP rfl rfl) (tmA rfl rfl) rfl rfl rfl ?_
         clear hS; intro w hS
         try replace hS := St.nm (M' := [.blk _ _ [_, _, _, _, _, _, _], .vw _ _, .blk _ _ [_, _, _, _, _, _, _], .vw _ _]) hS rfl
         refine hK _ _ ?_; clear hK K
         refine wl_v (x_assign (ev_cN 6)) ?_
         refine wl_nil ?_
         refine then_n (hK9 _ _ ?_); clear hK9 K9
         refine wp_ret ?_
         refine then_r ?_
         refine ret3 rfl (.tmp rfl (show _ = Value.slice _ _ _ from rfl)) (.cell rfl rfl (load_rowB (cs := [_, _, _, _, _, _, _]) hS.ok 2 rfl Try.underlying28 rfl ts_28 rfl)) (.tmp rfl (show _ = Value.int _ _ from rfl)) ?_
         first
           | (right; rw [fin1 (by omega)]; exact ⟨by omega, rfl, hS.kp⟩)
           | (right; rw [fin2 (by omega) (by omega) (by omega)]; exact ⟨by omega, rfl, hS.kp⟩)
           | (right; rw [f3 (by omega) (by omega) (by omega)]; exact ⟨by omega, rfl, hS.kp⟩)
           | (right; rw [f4 (by omega) (by omega) (by omega) (by omega)]; exact ⟨by omega, rfl, hS.kp⟩)
           | (left; exact ⟨L, _, c', f5 (by omega) (by omega) (by omega) (by omega), rfl, .inr hkc, rfl, ⟨viewV hS.ok 1 rfl, hfr⟩, hS.kp⟩)
      try (exfalso; first | with_reducible exact absurd hc1 Bool.false_ne_true | with_reducible exact absurd hc1.symm Bool.false_ne_true | (simp only [nrm] at hc1; omega) | (simp at hc1; done))
      all_goals
       try simp only [nrm] at hc1
       refine wp_skip ?_
       refine then_n (hK7 _ _ ?_); clear hK7 K7
       refine wp_seq_k ?_; intro K11 hK11
       refine wlit ?_
       refine wl_v (x_move (tmS rfl rfl)) ?_
       refine wl_e rfl ?_; intro K hK
       refine ow_call Try.func20 rfl rfl (evs_cons (tmS rfl rfl) <| evs_nil) (hsx _ _ _ (viewV hS.ok 1 rfl)) ?_
       rintro e w ⟨rfl, hk⟩
       refine ⟨_, rfl, ?_⟩
       replace hS := hS.kept hk
       clear hk
       refine hK _ _ ?_; clear hK K
       refine wl_v (x_move (tmT rfl rfl)) ?_
       refine wl_v (x_ext (tmT rfl rfl) rfl) ?_
       refine wl_v (x_ext (tmT rfl rfl) rfl) ?_
       refine wl_v (x_assign (tmB rfl rfl)) ?_
       refine wl_v (x_assign (tmI rfl rfl)) ?_
       refine wl_nil ?_
       refine then_n (hK11 _ _ ?_); clear hK11 K11
       refine wp_seq_k ?_; intro K12 hK12
       refine wp_seq_k ?_; intro K13 hK13
       refine wlit ?_
       refine wl_v (x_move (tmI rfl rfl)) ?_
       refine wl_v (x_neq (tmI rfl rfl) (ev_cN 0)) ?_
       refine wl_nil ?_
       refine then_n (hK13 _ _ ?_); clear hK13 K13
       refine cnd (tm rfl) (fun hc2 => ?_) (fun hc2 => ?_)
       · try (exfalso; first | with_reducible exact absurd hc2 Bool.false_ne_true | with_reducible exact absurd hc2.symm Bool.false_ne_true | (simp only [nrm] at hc2; omega) | (simp at hc2; done))
         all_goals
          try simp only [nrm] at hc2
          refine wp_seq_k ?_; intro K14 hK14
          refine wlit ?_
          refine wl_v (x_build (bc_skipL [.bool false, .int .u64 0, .int .u64 0] <| bc_skipL [.bool false, .int .u64 0, .int .u64 0] <| bc_skip (.int .u8 0) <| bc_nil) (by kernel_rfl)) ?_
          refine wl_v (x_move (tmI rfl rfl)) ?_
          refine wl_v (x_assign ev_c) ?_
          refine wl_e rfl ?_; intro K hK
          refine ow_storeA hS 2 rfl ts_28 (tmP rfl rfl) (tmA rfl rfl) rfl rfl rfl ?_
          clear hS; intro w hS
          try replace hS := St.nm (M' := [.blk _ _ [_, _, _, _, _, _, _], .vw _ _, .blk _ _ [_, _, _, _, _, _, _], .vw _ _]) hS rfl
          refine hK _ _ ?_; clear hK K
          refine wl_v (x_assign (tmI rfl rfl)) ?_
          refine wl_nil ?_
          refine then_n (hK14 _ _ ?_); clear hK14 K14
          refine wp_ret ?_
          refine then_r ?_
          refine ret3 rfl (.tmp rfl (show _ = Value.slice _ _ _ from rfl)) (.cell rfl rfl (load_rowB (cs := [_, _, _, _, _, _, _]) hS.ok 2 rfl Try.underlying28 rfl ts_28 rfl)) (.tmp rfl (show _ = Value.int _ _ from rfl)) ?_
          first
            | (right; rw [fin1 (by omega)]; exact ⟨by omega, rfl, hS.kp⟩)
            | (right; rw [fin2 (by omega) (by omega) (by omega)]; exact ⟨by omega, rfl, hS.kp⟩)
            | (right; rw [f3 (by omega) (by omega) (by omega)]; exact ⟨by omega, rfl, hS.kp⟩)
            | (right; rw [f4 (by omega) (by omega) (by omega) (by omega)]; exact ⟨by omega, rfl, hS.kp⟩)
            | (left; exact ⟨L, _, c', f5 (by omega) (by omega) (by omega) (by omega), rfl, .inr hkc, rfl, ⟨viewV hS.ok 1 rfl, hfr⟩, hS.kp⟩)
       try (exfalso; first | with_reducible exact absurd hc2 Bool.false_ne_true | with_reducible exact absurd hc2.symm Bool.false_ne_true | (simp only [nrm] at hc2; omega) | (simp at hc2; done))
       all_goals
        try simp only [nrm] at hc2
        refine wp_skip ?_
        refine then_n (hK12 _ _ ?_); clear hK12 K12
        refine wp_seq_k ?_; intro K16 hK16
        refine wp_seq_k ?_; intro K17 hK17
        refine wlit ?_
        refine wl_v (x_move (tmI rfl rfl)) ?_
        refine wl_v (x_move (tmB rfl rfl)) ?_
        refine wl_e rfl ?_; intro K hK
        refine ow_call Try.func86 rfl rfl (evs_cons (tmB rfl rfl) <| evs_nil) (number_c B _) ?_
        rintro e w ⟨rfl, hk⟩
        refine ⟨_, rfl, ?_⟩
        replace hS := hS.kept hk
        clear hk
        refine hK _ _ ?_; clear hK K
        refine wl_v (x_neq (tmI rfl rfl) (tmI rfl rfl)) ?_
        refine wl_nil ?_
        refine then_n (hK17 _ _ ?_); clear hK17 K17
        refine cnd (tm rfl) (fun hc3 => ?_) (fun hc3 => ?_)
        · try (exfalso; first | with_reducible exact absurd hc3 Bool.false_ne_true | with_reducible exact absurd hc3.symm Bool.false_ne_true | (simp only [nrm] at hc3; omega) | (simp at hc3; done))
          all_goals
           try simp only [nrm] at hc3
           refine wp_seq_k ?_; intro K18 hK18
           refine wlit ?_
           refine wl_v (x_build (bc_skipL [.bool false, .int .u64 0, .int .u64 0] <| bc_skipL [.bool false, .int .u64 0, .int .u64 0] <| bc_skip (.int .u8 0) <| bc_nil) (by kernel_rfl)) ?_
           refine wl_v (x_assign ev_c) ?_
           refine wl_e rfl ?_; intro K hK
           refine ow_storeA hS 2 rfl ts_28 (tmP rfl rfl) (tmA rfl rfl) rfl rfl rfl ?_
           clear hS; intro w hS
           try replace hS := St.nm (M' := [.blk _ _ [_, _, _, _, _, _, _], .vw _ _, .blk _ _ [_, _, _, _, _, _, _], .vw _ _]) hS rfl
           refine hK _ _ ?_; clear hK K
           refine wl_v (x_assign (ev_cN 21)) ?_
           refine wl_nil ?_
           refine then_n (hK18 _ _ ?_); clear hK18 K18
           refine wp_ret ?_
           refine then_r ?_
           refine ret3 rfl (.tmp rfl (show _ = Value.slice _ _ _ from rfl)) (.cell rfl rfl (load_rowB (cs := [_, _, _, _, _, _, _]) hS.ok 2 rfl Try.underlying28 rfl ts_28 rfl)) (.tmp rfl (show _ = Value.int _ _ from rfl)) ?_
           first
             | (right; rw [fin1 (by omega)]; exact ⟨by omega, rfl, hS.kp⟩)
             | (right; rw [fin2 (by omega) (by omega) (by omega)]; exact ⟨by omega, rfl, hS.kp⟩)
             | (right; rw [f3 (by omega) (by omega) (by omega)]; exact ⟨by omega, rfl, hS.kp⟩)
             | (right; rw [f4 (by omega) (by omega) (by omega) (by omega)]; exact ⟨by omega, rfl, hS.kp⟩)
             | (left; exact ⟨L, _, c', f5 (by omega) (by omega) (by omega) (by omega), rfl, .inr hkc, rfl, ⟨viewV hS.ok 1 rfl, hfr⟩, hS.kp⟩)
        try (exfalso; first | with_reducible exact absurd hc3 Bool.false_ne_true | with_reducible exact absurd hc3.symm Bool.false_ne_true | (simp only [nrm] at hc3; omega) | (simp at hc3; done))
        all_goals
         try simp only [nrm] at hc3
         refine wp_skip ?_
         refine then_n (hK16 _ _ ?_); clear hK16 K16
         refine wp_seq_k ?_; intro K20 hK20
         replace hS := hS.pick [2, 0, 1, 3] rfl rfl
         try replace hS := St.nm (M' := [.blk _ _ [_, _, _, _, _, _, _], .blk _ _ [_, _, _, _, _, _, _], .vw _ _, .vw _ _]) hS rfl
         refine rg_startk 1 hS mixed_ ?_
         clear hS; intro w hS
         refine rg_take 0 rfl rfl (by kernel_rfl) (by kernel_rfl) (by kernel_rfl) (want_0) (fun w hok => x_move (tmS rfl rfl)) ?_
         refine rg_take 1 rfl rfl (by kernel_rfl) (by kernel_rfl) (by kernel_rfl) (want_0) (fun w hok => x_loadA (cs := [_, _, _, _, _, _, _]) Try.underlying28 rfl ts_28 (tmP rfl rfl) (rangeB hok 0 rfl rfl)) ?_
         refine rg_take 2 rfl rfl (by kernel_rfl) (by kernel_rfl) (by kernel_rfl) (want_0) (fun w hok => x_assign (tmS rfl rfl)) ?_
         refine rg_step 3 rfl (by kernel_rfl) (want_0) (oks_drop hS 1 rfl) ?_; intro K hK
         refine ow_storeA hS 0 rfl ts_28 (tmP rfl rfl) (tmA rfl rfl) rfl rfl rfl ?_
         clear hS; intro w hS
         try replace hS := St.nm (M' := [.blk _ _ [_, _, _, _, _, _, _], .blk _ _ [_, _, _, _, _, _, _], .vw _ _, .vw _ _]) hS rfl
         refine hK _ _ ?_; clear hK K
         refine rg_take 4 rfl rfl (by kernel_rfl) (by kernel_rfl) (by kernel_rfl) (want_0) (fun w hok => x_assign (ev_cN 0)) ?_
         refine rg_done (oks_drop hS 1 rfl) (by kernel_rfl) ?_
         refine then_n (hK20 _ _ ?_); clear hK20 K20
         refine wp_ret ?_
         refine ret3 rfl (.tmp rfl (show _ = Value.slice _ _ _ from rfl)) (.cell rfl rfl (load_rowB (cs := [_, _, _, _, _, _, _]) hS.ok 0 rfl Try.underlying28 rfl ts_28 rfl)) (.tmp rfl (show _ = Value.int _ _ from rfl)) ?_
         first
           | (right; rw [fin1 (by omega)]; exact ⟨by omega, rfl, hS.kp⟩)
           | (right; rw [fin2 (by omega) (by omega) (by omega)]; exact ⟨by omega, rfl, hS.kp⟩)
           | (right; rw [f3 (by omega) (by omega) (by omega)]; exact ⟨by omega, rfl, hS.kp⟩)
           | (right; rw [f4 (by omega) (by omega) (by omega) (by omega)]; exact ⟨by omega, rfl, hS.kp⟩)
           | (left; exact ⟨L, _, c', f5 (by omega) (by omega) (by omega) (by omega), rfl, .inr hkc, rfl, ⟨viewV hS.ok 2 rfl, hfr⟩, hS.kp⟩)
   have hg4_2' := hg4_2; (try simp only [nrm] at hg4_2'); try (exfalso; first | with_reducible exact absurd hg4_2 Bool.false_ne_true | with_reducible exact absurd hg4_2.symm Bool.false_ne_true | omega | (simp at hg4_2; done))
   all_goals
    refine wl_s rfl (want_n rfl rfl rfl rfl (by rw [hg4_2]; rfl)) ?_
    refine wl_s rfl (want_n rfl rfl rfl rfl (by rw [hg4_2]; rfl)) ?_
    refine wl_v (x_pickF (tmB rfl rfl) hg4_2 ev_c) ?_
    refine wl_nil ?_
    refine then_n (hK8 _ _ ?_); clear hK8 K8
    refine cnd_f (tmB rfl rfl) rfl ?_
    refine wp_skip ?_
    refine then_n (hK7 _ _ ?_); clear hK7 K7
    refine wp_seq_k ?_; intro K22 hK22
    refine wlit ?_
    refine wl_v (x_move (tmS rfl rfl)) ?_
    refine wl_e rfl ?_; intro K hK
    refine ow_call Try.func20 rfl rfl (evs_cons (tmS rfl rfl) <| evs_nil) (hsx _ _ _ (viewV hS.ok 1 rfl)) ?_
    rintro e w ⟨rfl, hk⟩
    refine ⟨_, rfl, ?_⟩
    replace hS := hS.kept hk
    clear hk
    refine hK _ _ ?_; clear hK K
    refine wl_v (x_move (tmT rfl rfl)) ?_
    refine wl_v (x_ext (tmT rfl rfl) rfl) ?_
    refine wl_v (x_ext (tmT rfl rfl) rfl) ?_
    refine wl_v (x_assign (tmB rfl rfl)) ?_
    refine wl_v (x_assign (tmI rfl rfl)) ?_
    refine wl_nil ?_
    refine then_n (hK22 _ _ ?_); clear hK22 K22
    refine wp_seq_k ?_; intro K23 hK23
    refine wp_seq_k ?_; intro K24 hK24
    refine wlit ?_
    refine wl_v (x_move (tmI rfl rfl)) ?_
    refine wl_v (x_neq (tmI rfl rfl) (ev_cN 0)) ?_
    refine wl_nil ?_
    refine then_n (hK24 _ _ ?_); clear hK24 K24
    refine cnd (tm rfl) (fun hc2 => ?_) (fun hc2 => ?_)
    · try (exfalso; first | with_reducible exact absurd hc2 Bool.false_ne_true | with_reducible exact absurd hc2.symm Bool.false_ne_true | (simp only [nrm] at hc2; omega) | (simp at hc2; done))
      all_goals
       try simp only [nrm] at hc2
       refine wp_seq_k ?_; intro K25 hK25
       refine wlit ?_
       refine wl_v (x_build (bc_skipL [.bool false, .int .u64 0, .int .u64 0] <| bc_skipL [.bool false, .int .u64 0, .int .u64 0] <| bc_skip (.int .u8 0) <| bc_nil) (by kernel_rfl)) ?_
       refine wl_v (x_move (tmI rfl rfl)) ?_
       refine wl_v (x_assign ev_c) ?_
       refine wl_e rfl ?_; intro K hK
       refine ow_storeA hS 2 rfl ts_28 (tmP rfl rfl) (tmA rfl rfl) rfl rfl rfl ?_
       clear hS; intro w hS
       try replace hS := St.nm (M' := [.blk _ _ [_, _, _, _, _, _, _], .vw _ _, .blk _ _ [_, _, _, _, _, _, _], .vw _ _]) hS rfl
       refine hK _ _ ?_; clear hK K
       refine wl_v (x_assign (tmI rfl rfl)) ?_
       refine wl_nil ?_
       refine then_n (hK25 _ _ ?_); clear hK25 K25
       refine wp_ret ?_
       refine then_r ?_
       refine ret3 rfl (.tmp rfl (show _ = Value.slice _ _ _ from rfl)) (.cell rfl rfl (load_rowB (cs := [_, _, _, _, _, _, _]) hS.ok 2 rfl Try.underlying28 rfl ts_28 rfl)) (.tmp rfl (show _ = Value.int _ _ from rfl)) ?_
       first
         | (right; rw [fin1 (by omega)]; exact ⟨by omega, rfl, hS.kp⟩)
         | (right; rw [fin2 (by omega) (by omega) (by omega)]; exact ⟨by omega, rfl, hS.kp⟩)
         | (right; rw [f3 (by omega) (by omega) (by omega)]; exact ⟨by omega, rfl, hS.kp⟩)
         | (right; rw [f4 (by omega) (by omega) (by omega) (by omega)]; exact ⟨by omega, rfl, hS.kp⟩)
         | (left; exact ⟨L, _, c', f5 (by omega) (by omega) (by omega) (by omega), rfl, .inr hkc, rfl, ⟨viewV hS.ok 1 rfl, hfr⟩, hS.kp⟩)
    try (exfalso; first | with_reducible exact absurd hc2 Bool.false_ne_true | with_reducible exact absurd hc2.symm Bool.false_ne_true | (simp only [nrm] at hc2; omega) | (simp at hc2; done))
    all_goals
     try simp only [nrm] at hc2
     refine wp_skip ?_
     refine then_n (hK23 _ _ ?_); clear hK23 K23
     refine wp_seq_k ?_; intro K27 hK27
     refine wp_seq_k ?_; intro K28 hK28
     refine wlit ?_
     refine wl_v (x_move (tmI rfl rfl)) ?_
     refine wl_v (x_move (tmB rfl rfl)) ?_
     refine wl_e rfl ?_; intro K hK
     refine ow_call Try.func86 rfl rfl (evs_cons (tmB rfl rfl) <| evs_nil) (number_c B _) ?_
     rintro e w ⟨rfl, hk⟩
     refine ⟨_, rfl, ?_⟩
     replace hS := hS.kept hk
     clear hk
     refine hK _ _ ?_; clear hK K
     refine wl_v (x_neq (tmI rfl rfl) (tmI rfl rfl)) ?_
     refine wl_nil ?_
     refine then_n (hK28 _ _ ?_); clear hK28 K28
     refine cnd (tm rfl) (fun hc3 => ?_) (fun hc3 => ?_)
     · try (exfalso; first | with_reducible exact absurd hc3 Bool.false_ne_true | with_reducible exact absurd hc3.symm Bool.false_ne_true | (simp only [nrm] at hc3; omega) | (simp at hc3; done))
       all_goals
        try simp only [nrm] at hc3
        refine wp_seq_k ?_; intro K29 hK29
        refine wlit ?_
        refine wl_v (x_build (bc_skipL [.bool false, .int .u64 0, .int .u64 0] <| bc_skipL [.bool false, .int .u64 0, .int .u64 0] <| bc_skip (.int .u8 0) <| bc_nil) (by kernel_rfl)) ?_
        refine wl_v (x_assign ev_c) ?_
        refine wl_e rfl ?_; intro K hK
        refine ow_storeA hS 2 rfl ts_28 (tmP rfl rfl) (tmA rfl rfl) rfl rfl rfl ?_
        clear hS; intro w hS
        try replace hS := St.nm (M' := [.blk _ _ [_, _, _, _, _, _, _], .vw _ _, .blk _ _ [_, _, _, _, _, _, _], .vw _ _]) hS rfl
        refine hK _ _ ?_; clear hK K
        refine wl_v (x_assign (ev_cN 21)) ?_
        refine wl_nil ?_
        refine then_n (hK29 _ _ ?_); clear hK29 K29
        refine wp_ret ?_
        refine then_r ?_
        refine ret3 rfl (.tmp rfl (show _ = Value.slice _ _ _ from rfl)) (.cell rfl rfl (load_rowB (cs := [_, _, _, _, _, _, _]) hS.ok 2 rfl Try.underlying28 rfl ts_28 rfl)) (.tmp rfl (show _ = Value.int _ _ from rfl)) ?_
        first
          | (right; rw [fin1 (by omega)]; exact ⟨by omega, rfl, hS.kp⟩)
          | (right; rw [fin2 (by omega) (by omega) (by omega)]; exact ⟨by omega, rfl, hS.kp⟩)
          | (right; rw [f3 (by omega) (by omega) (by omega)]; exact ⟨by omega, rfl, hS.kp⟩)
          | (right; rw [f4 (by omega) (by omega) (by omega) (by omega)]; exact ⟨by omega, rfl, hS.kp⟩)
          | (left; exact ⟨L, _, c', f5 (by omega) (by omega) (by omega) (by omega), rfl, .inr hkc, rfl, ⟨viewV hS.ok 1 rfl, hfr⟩, hS.kp⟩)
     try (exfalso; first | with_reducible exact absurd hc3 Bool.false_ne_true | with_reducible exact absurd hc3.symm Bool.false_ne_true | (simp only [nrm] at hc3; omega) | (simp at hc3; done))
     all_goals
      try simp only [nrm] at hc3
      refine wp_skip ?_
      refine then_n (hK27 _ _ ?_); clear hK27 K27
      refine wp_seq_k ?_; intro K31 hK31
      replace hS := hS.pick [2, 0, 1, 3] rfl rfl
      try replace hS := St.nm (M' := [.blk _ _ [_, _, _, _, _, _, _], .blk _ _ [_, _, _, _, _, _, _], .vw _ _, .vw _ _]) hS rfl
      refine rg_startk 1 hS mixed_ ?_
      clear hS; intro w hS
      refine rg_take 0 rfl rfl (by kernel_rfl) (by kernel_rfl) (by kernel_rfl) (want_0) (fun w hok => x_move (tmS rfl rfl)) ?_
      refine rg_take 1 rfl rfl (by kernel_rfl) (by kernel_rfl) (by kernel_rfl) (want_0) (fun w hok => x_loadA (cs := [_, _, _, _, _, _, _]) Try.underlying28 rfl ts_28 (tmP rfl rfl) (rangeB hok 0 rfl rfl)) ?_
      refine rg_take 2 rfl rfl (by kernel_rfl) (by kernel_rfl) (by kernel_rfl) (want_0) (fun w hok => x_assign (tmS rfl rfl)) ?_
      refine rg_step 3 rfl (by kernel_rfl) (want_0) (oks_drop hS 1 rfl) ?_; intro K hK
      refine ow_storeA hS 0 rfl ts_28 (tmP rfl rfl) (tmA rfl rfl) rfl rfl rfl ?_
      clear hS; intro w hS
      try replace hS := St.nm (M' := [.blk _ _ [_, _, _, _, _, _, _], .blk _ _ [_, _, _, _, _, _, _], .vw _ _, .vw _ _]) hS rfl
      refine hK _ _ ?_; clear hK K
      refine rg_take 4 rfl rfl (by kernel_rfl) (by kernel_rfl) (by kernel_rfl) (want_0) (fun w hok => x_assign (ev_cN 0)) ?_
      refine rg_done (oks_drop hS 1 rfl) (by kernel_rfl) ?_
      refine then_n (hK31 _ _ ?_); clear hK31 K31
      refine wp_ret ?_
      refine ret3 rfl (.tmp rfl (show _ = Value.slice _ _ _ from rfl)) (.cell rfl rfl (load_rowB (cs := [_, _, _, _, _, _, _]) hS.ok 0 rfl Try.underlying28 rfl ts_28 rfl)) (.tmp rfl (show _ = Value.int _ _ from rfl)) ?_
      first
        | (right; rw [fin1 (by omega)]; exact ⟨by omega, rfl, hS.kp⟩)
        | (right; rw [fin2 (by omega) (by omega) (by omega)]; exact ⟨by omega, rfl, hS.kp⟩)
        | (right; rw [f3 (by omega) (by omega) (by omega)]; exact ⟨by omega, rfl, hS.kp⟩)
        | (right; rw [f4 (by omega) (by omega) (by omega) (by omega)]; exact ⟨by omega, rfl, hS.kp⟩)
        | (left; exact ⟨L, _, c', f5 (by omega) (by omega) (by omega) (by omega), rfl, .inr hkc, rfl, ⟨viewV hS.ok 2 rfl, hfr⟩, hS.kp⟩)
end Go.Proofs.Ytilgolflpdpfnaa
