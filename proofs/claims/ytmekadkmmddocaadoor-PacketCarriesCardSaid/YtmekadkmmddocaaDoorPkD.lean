/- packet.WithTCP and the reference's, by contract. Conditions: none but bounds. -/
import Derived.Test.YtmekadkmmddocaaDoorPkC
namespace Go.Proofs.YtmekadkmmddocaaDoor
open Go.RowKit
set_option maxRecDepth 100000 in
set_option maxHeartbeats 4000000 in
theorem with_bad (a1 a2 a3 a4 a5 a6 a7 a8 : Nat) (O : Option Addr) (co : Nat) (L : Option Addr) (d : Nat) (o x : List Nat) (A : Option Addr) (c : Nat) (l : List Nat) (w0 : World) (hv : View w0 w0.heap.size A (l.map u8v)) (hc : l.length ≤ c) (hb : Bytes l) (hn : l.length ≤ 3000) (hov : View w0 w0.heap.size O (o.map u8v)) (hxv : View w0 w0.heap.size L (x.map u8v)) (ho : o.length ≤ 100) (hx : x.length ≤ 2000) (hr : ¬ segRight o.length x.length) :
    Calls Tryd.prog 16 #[.slice A l.length c, .agg (segV a1 a2 a3 a4 a5 a6 a7 a8 O o.length co L x.length d).toArray] w0 fun e w' => ∃ A' n c' P E, (P = [] ∧ E = 1) ∧ n = P.length ∧ e = .returned (.tuple #[.slice A' n c', .int .i64 ((E : Nat) : Int)]) ∧ NewV w0 w' A' (P.map u8v) ∧ Kp [] w0 w' := by
  have hS := (((St.sv w0).vcons rfl hv).vcons rfl hov).vcons rfl hxv
  refine ent (n := 51) Tryd.func16 rfl rfl ?_
  refine wp_seq_k ?_; intro K1 hK1
  refine wlit ?_
  refine wl_e rfl ?_; intro K hK
  refine ow_box hS (tmA rfl rfl) rfl ?_
  clear hS; intro g0_0 w hg0_0 hS
  refine hK _ _ ?_; clear hK K
  refine wl_v (x_assign ev_c) ?_
  refine wl_v (x_assign (ev_cN 0)) ?_
  refine wl_nil ?_
  refine then_n (hK1 _ _ ?_); clear hK1 K1
  refine wp_seq_k ?_; intro K2 hK2
  refine wp_seq_k ?_; intro K3 hK3
  refine wlit ?_
  refine wl_v (x_loadA (cs := [_, _, _, _, _, _, _, _, _, _]) Tryd.underlying32 rfl ts_32 (tmP rfl rfl) (rangeB hS.ok 0 rfl rfl)) ?_
  refine wl_e rfl ?_; intro K hK
  refine ow_call Tryd.func29 rfl rfl (evs_cons (tmA rfl rfl) <| evs_nil) (tcp_right_c a1 a2 a3 a4 a5 a6 a7 a8 O o.length co L x.length d _ (by omega) (by omega)) ?_
  rintro e w ⟨rfl, hk⟩
  refine ⟨_, rfl, ?_⟩
  replace hS := hS.kept hk
  clear hk
  refine hK _ _ ?_; clear hK K
  refine wl_v (x_not (tmB rfl rfl)) ?_
  refine wl_nil ?_
  refine then_n (hK3 _ _ ?_); clear hK3 K3
  refine cnds (tm rfl) (fun hc0 => ?_) (fun hc0 => ?_)
  · exfalso
    simp at hc0
    exact hr hc0
  try (exfalso; first | with_reducible exact absurd hc0 Bool.false_ne_true | with_reducible exact absurd hc0.symm Bool.false_ne_true | (simp only [nrm] at hc0; omega) | (simp at hc0; done))
  all_goals
   try simp only [nrm] at hc0
   refine wp_seq_k ?_; intro K4 hK4
   refine wlit ?_
   refine wl_v (x_assign ev_c) ?_
   refine wl_v (x_assign (ev_cN 1)) ?_
   refine wl_nil ?_
   refine then_n (hK4 _ _ ?_); clear hK4 K4
   refine wp_ret ?_
   refine then_r ?_
   refine ret2 rfl (.tmp rfl (show _ = Value.slice _ _ _ from rfl)) (.tmp rfl (show _ = Value.int _ _ from rfl)) ?_
   exact ⟨none, 0, 0, [], 1, ⟨rfl, rfl⟩, rfl, rfl, NewV.nil_ _ _ _, hS.kp⟩
set_option maxRecDepth 100000 in
set_option maxHeartbeats 4000000 in
theorem rwith_bad (a1 a2 a3 a4 a5 a6 a7 a8 : Nat) (O : Option Addr) (co : Nat) (L : Option Addr) (d : Nat) (o x : List Nat) (A : Option Addr) (c : Nat) (l : List Nat) (w0 : World) (hv : View w0 w0.heap.size A (l.map u8v)) (hc : l.length ≤ c) (hb : Bytes l) (hn : l.length ≤ 3000) (hov : View w0 w0.heap.size O (o.map u8v)) (hxv : View w0 w0.heap.size L (x.map u8v)) (ho : o.length ≤ 100) (hx : x.length ≤ 2000) (hr : ¬ segRight o.length x.length) :
    Calls Tryd.prog 18 #[.slice A l.length c, .agg (segV a1 a2 a3 a4 a5 a6 a7 a8 O o.length co L x.length d).toArray] w0 fun e w' => ∃ A' n c' P E, (P = [] ∧ E = 1) ∧ n = P.length ∧ e = .returned (.tuple #[.slice A' n c', .int .i64 ((E : Nat) : Int)]) ∧ NewV w0 w' A' (P.map u8v) ∧ Kp [] w0 w' := by
  have hS := (((St.sv w0).vcons rfl hv).vcons rfl hov).vcons rfl hxv
  refine ent (n := 52) Tryd.func18 rfl rfl ?_
  refine wp_seq_k ?_; intro K1 hK1
  refine wlit ?_
  refine wl_e rfl ?_; intro K hK
  refine ow_box hS (tmA rfl rfl) rfl ?_
  clear hS; intro g0_0 w hg0_0 hS
  refine hK _ _ ?_; clear hK K
  refine wl_v (x_assign ev_c) ?_
  refine wl_v (x_assign (ev_cN 0)) ?_
  refine wl_nil ?_
  refine then_n (hK1 _ _ ?_); clear hK1 K1
  refine wp_seq_k ?_; intro K2 hK2
  refine wp_seq_k ?_; intro K3 hK3
  refine wlit ?_
  refine wl_v (x_loadA (cs := [_, _, _, _, _, _, _, _, _, _]) Tryd.underlying42 rfl ts_42 (tmP rfl rfl) (rangeB hS.ok 0 rfl rfl)) ?_
  refine wl_e rfl ?_; intro K hK
  refine ow_call Tryd.func36 rfl rfl (evs_cons (tmA rfl rfl) <| evs_nil) (rtcp_right_c a1 a2 a3 a4 a5 a6 a7 a8 O o.length co L x.length d _ (by omega) (by omega)) ?_
  rintro e w ⟨rfl, hk⟩
  refine ⟨_, rfl, ?_⟩
  replace hS := hS.kept hk
  clear hk
  refine hK _ _ ?_; clear hK K
  refine wl_v (x_not (tmB rfl rfl)) ?_
  refine wl_nil ?_
  refine then_n (hK3 _ _ ?_); clear hK3 K3
  refine cnds (tm rfl) (fun hc0 => ?_) (fun hc0 => ?_)
  · exfalso
    simp at hc0
    exact hr hc0
  try (exfalso; first | with_reducible exact absurd hc0 Bool.false_ne_true | with_reducible exact absurd hc0.symm Bool.false_ne_true | (simp only [nrm] at hc0; omega) | (simp at hc0; done))
  all_goals
   try simp only [nrm] at hc0
   refine wp_seq_k ?_; intro K4 hK4
   refine wlit ?_
   refine wl_v (x_assign ev_c) ?_
   refine wl_v (x_assign (ev_cN 1)) ?_
   refine wl_nil ?_
   refine then_n (hK4 _ _ ?_); clear hK4 K4
   refine wp_ret ?_
   refine then_r ?_
   refine ret2 rfl (.tmp rfl (show _ = Value.slice _ _ _ from rfl)) (.tmp rfl (show _ = Value.int _ _ from rfl)) ?_
   exact ⟨none, 0, 0, [], 1, ⟨rfl, rfl⟩, rfl, rfl, NewV.nil_ _ _ _, hS.kp⟩
set_option maxRecDepth 100000 in
set_option maxHeartbeats 4000000 in
theorem with_six (a1 a2 a3 a4 a5 a6 a7 a8 : Nat) (O : Option Addr) (co : Nat) (L : Option Addr) (d : Nat) (o x : List Nat) (A : Option Addr) (c : Nat) (l : List Nat) (w0 : World) (hv : View w0 w0.heap.size A (l.map u8v)) (hc : l.length ≤ c) (hb : Bytes l) (hn : l.length ≤ 3000) (hov : View w0 w0.heap.size O (o.map u8v)) (hxv : View w0 w0.heap.size L (x.map u8v)) (ho : o.length ≤ 100) (hx : x.length ≤ 2000) (q1 : a1 < 65536) (q2 : a2 < 65536) (q3 : a3 < 4294967296) (q4 : a4 < 4294967296) (q5 : a5 < 256) (q6 : a6 < 65536) (q7 : a7 < 65536) (q8 : a8 < 65536) (hr : segRight o.length x.length) (h6 : sixP l)
    (cl lb : Nat) (len : Int) (pr ttl : Nat) (s d2 : Ad) (x2 pp : List Nat) (e6 er : Nat) (hP : Parts4 31 l (fun _ _ => hd6V cl lb len pr ttl s d2) [] x2 e6) (hK : Packs 32 (fun _ _ => hd6V cl lb len pr ttl s d2) [] (segB a1 a2 a3 a4 a5 a6 a7 a8 o x) pp er) :
    Calls Tryd.prog 16 #[.slice A l.length c, .agg (segV a1 a2 a3 a4 a5 a6 a7 a8 O o.length co L x.length d).toArray] w0 fun e w' => ∃ A' n c' P E, ((e6 ≠ 0 ∧ P = [] ∧ E = 21) ∨ (e6 = 0 ∧ P = pp ∧ E = er)) ∧ n = P.length ∧ e = .returned (.tuple #[.slice A' n c', .int .i64 ((E : Nat) : Int)]) ∧ NewV w0 w' A' (P.map u8v) ∧ Kp [] w0 w' := by
  have hS := (((St.sv w0).vcons rfl hv).vcons rfl hov).vcons rfl hxv
  have hbl : (segB a1 a2 a3 a4 a5 a6 a7 a8 o x).length = 20 + o.length + x.length := by simp [segB, be_length]; omega
  have hby := fun w h1 h2 => tcp_bytes_c a1 a2 a3 a4 a5 a6 a7 a8 O co L d o x w h1 h2 q1 q2 q3 q4 q5 q6 q7 q8 hr
  have hK2 : ∀ (w : World) (B : Option Addr) (n c' : Nat), n = 20 + o.length + x.length → View w w.heap.size B ((segB a1 a2 a3 a4 a5 a6 a7 a8 o x).map u8v) → Calls Tryd.prog 32 #[.agg (hd6V cl lb len pr ttl s d2).toArray, .slice B n c'] w fun e w' => ∃ A n c', n = pp.length ∧ e = .returned (.tuple #[.slice A n c', .int .i64 (er : Int)]) ∧ New w w' (.row (.slice A n c') 5 1 n (pp.map u8v)) ∧ Kp [] w w' := fun w B n c' hn hv => by
    rw [hn, ← hbl]
    exact hK w none 0 B c' View.nil_ hv
  clear hK
  generalize segB a1 a2 a3 a4 a5 a6 a7 a8 o x = B at *
  refine ent (n := 51) Tryd.func16 rfl rfl ?_
  refine wp_seq_k ?_; intro K1 hK1
  refine wlit ?_
  refine wl_e rfl ?_; intro K hK
  refine ow_box hS (tmA rfl rfl) rfl ?_
  clear hS; intro g0_0 w hg0_0 hS
  refine hK _ _ ?_; clear hK K
  refine wl_v (x_assign ev_c) ?_
  refine wl_v (x_assign (ev_cN 0)) ?_
  refine wl_nil ?_
  refine then_n (hK1 _ _ ?_); clear hK1 K1
  refine wp_seq_k ?_; intro K2 hK2
  refine wp_seq_k ?_; intro K3 hK3
  refine wlit ?_
  refine wl_v (x_loadA (cs := [_, _, _, _, _, _, _, _, _, _]) Tryd.underlying32 rfl ts_32 (tmP rfl rfl) (rangeB hS.ok 0 rfl rfl)) ?_
  refine wl_e rfl ?_; intro K hK
  refine ow_call Tryd.func29 rfl rfl (evs_cons (tmA rfl rfl) <| evs_nil) (tcp_right_c a1 a2 a3 a4 a5 a6 a7 a8 O o.length co L x.length d _ (by omega) (by omega)) ?_
  rintro e w ⟨rfl, hk⟩
  refine ⟨_, rfl, ?_⟩
  replace hS := hS.kept hk
  clear hk
  refine hK _ _ ?_; clear hK K
  refine wl_v (x_not (tmB rfl rfl)) ?_
  refine wl_nil ?_
  refine then_n (hK3 _ _ ?_); clear hK3 K3
  refine cnd (tm rfl) (fun hc0 => ?_) (fun hc0 => ?_)
  · exfalso
    simp at hc0
    exact hc0 hr
  try (exfalso; first | with_reducible exact absurd hc0 Bool.false_ne_true | with_reducible exact absurd hc0.symm Bool.false_ne_true | (simp only [nrm] at hc0; omega) | (simp at hc0; done))
  all_goals
   try simp only [nrm] at hc0
   refine wp_skip ?_
   refine then_n (hK2 _ _ ?_); clear hK2 K2
   refine wp_seq_k ?_; intro K4 hK4
   refine wlit ?_
   refine wl_v (x_move (tmS rfl rfl)) ?_
   refine wl_e rfl ?_; intro K hK
   refine ow_call Tryd.func30 rfl rfl (evs_cons (tmS rfl rfl) <| evs_nil) (six_c l.length A c l _ (viewV hS.ok 3 rfl) rfl hb (by omega)) ?_
   rintro e w ⟨rfl, hk⟩
   refine ⟨_, rfl, ?_⟩
   replace hS := hS.kept hk
   clear hk
   refine hK _ _ ?_; clear hK K
   refine wl_v (x_move (tmT rfl rfl)) ?_
   refine wl_v (x_ext (tmT rfl rfl) rfl) ?_
   refine wl_v (x_ext (tmT rfl rfl) rfl) ?_
   refine wl_v (x_assign (tmB rfl rfl)) ?_
   refine wl_v (x_assign (tmI rfl rfl)) ?_
   refine wl_nil ?_
   refine then_n (hK4 _ _ ?_); clear hK4 K4
   refine wp_seq_k ?_; intro K5 hK5
   refine wp_seq_k ?_; intro K6 hK6
   refine wlit ?_
   refine wl_v (x_move (tmB rfl rfl)) ?_
   refine wl_nil ?_
   refine then_n (hK6 _ _ ?_); clear hK6 K6
   refine cnds (tm rfl) (fun hc1 => ?_) (fun hc1 => ?_)
   · exfalso
     simp at hc1
     exact hc1 h6
   try (exfalso; first | with_reducible exact absurd hc1 Bool.false_ne_true | with_reducible exact absurd hc1.symm Bool.false_ne_true | (simp only [nrm] at hc1; omega) | (simp at hc1; done))
   all_goals
    try simp only [nrm] at hc1
    refine wp_seq_k ?_; intro K7 hK7
    refine wlit ?_
    refine wl_v (x_move (tmS rfl rfl)) ?_
    refine wl_e rfl ?_; intro K hK
    refine ow_call Tryd.func31 rfl rfl (evs_cons (tmS rfl rfl) <| evs_nil) (hP _ A c (viewV hS.ok 3 rfl) hc) ?_
    rintro e w ⟨_, _, L2, k2, c2, hk2, rfl, -, -, hk⟩
    refine ⟨_, rfl, ?_⟩
    replace hS := hS.kept hk
    clear hk
    refine hK _ _ ?_; clear hK K
    refine wl_v (x_move (tmT rfl rfl)) ?_
    refine wl_v (x_ext (tmT rfl rfl) rfl) ?_
    refine wl_v (x_ext (tmT rfl rfl) rfl) ?_
    refine wl_v (x_ext (tmT rfl rfl) rfl) ?_
    refine wl_e rfl ?_; intro K hK
    refine ow_alloc hS tz_82 rfl ?_
    clear hS; intro g5_6 w hg5_6 hS
    refine hK _ _ ?_; clear hK K
    refine wl_e rfl ?_; intro K hK
    refine ow_storeA hS 0 rfl ts_82 (tmP rfl rfl) (tmA rfl rfl) rfl rfl rfl ?_
    clear hS; intro w hS
    try replace hS := St.nm (M' := [.blk _ _ [_, _, _, _, _, _, _, _, _, _, _], .blk _ _ [_, _, _, _, _, _, _, _, _, _], .vw _ _, .vw _ _, .vw _ _]) hS rfl
    refine hK _ _ ?_; clear hK K
    refine wl_v (x_assign (tmS rfl rfl)) ?_
    refine wl_v (x_assign (tmI rfl rfl)) ?_
    refine wl_nil ?_
    refine then_n (hK7 _ _ ?_); clear hK7 K7
    refine wp_seq_k ?_; intro K8 hK8
    refine wp_seq_k ?_; intro K9 hK9
    refine wlit ?_
    refine wl_v (x_move (tmI rfl rfl)) ?_
    refine wl_v (x_neq (tmI rfl rfl) (ev_cN 0)) ?_
    refine wl_nil ?_
    refine then_n (hK9 _ _ ?_); clear hK9 K9
    refine cnd (tm rfl) (fun hc2 => ?_) (fun hc2 => ?_)
    · try (exfalso; first | with_reducible exact absurd hc2 Bool.false_ne_true | with_reducible exact absurd hc2.symm Bool.false_ne_true | (simp only [nrm] at hc2; omega) | (simp at hc2; done))
      all_goals
       try simp only [nrm] at hc2
       have hne : e6 ≠ 0 := by first | omega | (simp at hc2; omega)
       refine wp_seq_k ?_; intro K10 hK10
       refine wlit ?_
       refine wl_v (x_assign ev_c) ?_
       refine wl_v (x_assign (ev_cN 21)) ?_
       refine wl_nil ?_
       refine then_n (hK10 _ _ ?_); clear hK10 K10
       refine wp_ret ?_
       refine then_r ?_
       refine then_r ?_
       refine ret2 rfl (.tmp rfl (show _ = Value.slice _ _ _ from rfl)) (.tmp rfl (show _ = Value.int _ _ from rfl)) ?_
       first
         | exact ⟨none, 0, 0, [], 21, .inl ⟨hne, rfl, rfl⟩, rfl, rfl, NewV.nil_ _ _ _, hS.kp⟩
         | exact ⟨A5, n5, c5, pp, er, .inr ⟨heq, rfl, rfl⟩, hn5, rfl, hS.newv (no_label_rowp) rfl, hS.kp⟩
    try (exfalso; first | with_reducible exact absurd hc2 Bool.false_ne_true | with_reducible exact absurd hc2.symm Bool.false_ne_true | (simp only [nrm] at hc2; omega) | (simp at hc2; done))
    all_goals
     try simp only [nrm] at hc2
     have heq : e6 = 0 := by first | omega | (simp at hc2; omega)
     refine wp_skip ?_
     refine then_n (hK8 _ _ ?_); clear hK8 K8
     refine wp_seq_k ?_; intro K11 hK11
     refine rg_startk 0 hS mixed_ ?_
     clear hS; intro w hS
     refine rg_take 0 rfl rfl (by kernel_rfl) (by kernel_rfl) (by kernel_rfl) (want_0) (fun w hok => x_loadA (cs := [_, _, _, _, _, _, _, _, _, _, _]) Tryd.underlying82 rfl ts_82 (tmP rfl rfl) (rangeB hok 0 rfl rfl)) ?_
     refine rg_take 1 rfl rfl (by kernel_rfl) (by kernel_rfl) (by kernel_rfl) (want_0) (fun w hok => x_loadA (cs := [_, _, _, _, _, _, _, _, _, _]) Tryd.underlying32 rfl ts_32 (tmP rfl rfl) (rangeB hok 1 rfl rfl)) ?_
     refine rg_step 2 rfl (by kernel_rfl) (want_0) (oks_drop hS 0 rfl) ?_; intro K hK
     refine ow_call Tryd.func33 rfl rfl (evs_cons (tmA rfl rfl) <| evs_nil) (hby _ (viewV hS.ok 3 rfl) (viewV hS.ok 2 rfl)) ?_
     rintro e w ⟨A4, n4, c4, hn4, rfl, hn, hk⟩
     refine ⟨_, rfl, ?_⟩
     replace hS := hS.add hk hn -- +rowb
     clear hn hk
     refine hK _ _ ?_; clear hK K
     refine rg_step 3 rfl (by kernel_rfl) (want_0) (oks_drop hS 1 rfl) ?_; intro K hK
     refine ow_call Tryd.func32 rfl rfl (evs_cons (tmA rfl rfl) <| evs_cons (tmS rfl rfl) <| evs_nil) (hK2 _ A4 n4 c4 hn4 (viewR hS.ok 0 rfl)) ?_
     rintro e w ⟨A5, n5, c5, hn5, rfl, hn, hk⟩
     refine ⟨_, rfl, ?_⟩
     replace hS := hS.add hk hn -- +rowp
     clear hn hk
     refine hK _ _ ?_; clear hK K
     refine rg_take 4 rfl rfl (by kernel_rfl) (by kernel_rfl) (by kernel_rfl) (want_0) (fun w hok => x_ext (tmT rfl rfl) rfl) ?_
     refine rg_take 5 rfl rfl (by kernel_rfl) (by kernel_rfl) (by kernel_rfl) (want_0) (fun w hok => x_ext (tmT rfl rfl) rfl) ?_
     refine rg_take 6 rfl rfl (by kernel_rfl) (by kernel_rfl) (by kernel_rfl) (want_0) (fun w hok => x_assign (tmS rfl rfl)) ?_
     refine rg_take 7 rfl rfl (by kernel_rfl) (by kernel_rfl) (by kernel_rfl) (want_0) (fun w hok => x_assign (tmI rfl rfl)) ?_
     refine rg_done (oks_drop hS 2 rfl) (by kernel_rfl) ?_
     refine then_n (hK11 _ _ ?_); clear hK11 K11
     refine wp_ret ?_
     refine then_r ?_
     refine ret2 rfl (.tmp rfl (show _ = Value.slice _ _ _ from rfl)) (.tmp rfl (show _ = Value.int _ _ from rfl)) ?_
     first
       | exact ⟨none, 0, 0, [], 21, .inl ⟨hne, rfl, rfl⟩, rfl, rfl, NewV.nil_ _ _ _, hS.kp⟩
       | exact ⟨A5, n5, c5, pp, er, .inr ⟨heq, rfl, rfl⟩, hn5, rfl, hS.newv 0 rfl, hS.kp⟩
set_option maxRecDepth 100000 in
set_option maxHeartbeats 4000000 in
theorem with_four (a1 a2 a3 a4 a5 a6 a7 a8 : Nat) (O : Option Addr) (co : Nat) (L : Option Addr) (d : Nat) (o x : List Nat) (A : Option Addr) (c : Nat) (l : List Nat) (w0 : World) (hv : View w0 w0.heap.size A (l.map u8v)) (hc : l.length ≤ c) (hb : Bytes l) (hn : l.length ≤ 3000) (hov : View w0 w0.heap.size O (o.map u8v)) (hxv : View w0 w0.heap.size L (x.map u8v)) (ho : o.length ≤ 100) (hx : x.length ≤ 2000) (q1 : a1 < 65536) (q2 : a2 < 65536) (q3 : a3 < 4294967296) (q4 : a4 < 4294967296) (q5 : a5 < 256) (q6 : a6 < 65536) (q7 : a7 < 65536) (q8 : a8 < 65536) (hr : segRight o.length x.length) (h6 : ¬ sixP l)
    (tos : Nat) (len : Int) (id : Nat) (stay more : Bool) (off ttl pr sum : Nat) (s d2 : Ad) (o2 x2 pp : List Nat) (e6 er : Nat) (hP : Parts4 34 l (fun O c => hdV tos len id stay more (off : Int) ttl pr sum s d2 O o2.length c) o2 x2 e6) (hK : Packs 35 (fun O c => hdV tos len id stay more (off : Int) ttl pr sum s d2 O o2.length c) o2 (segB a1 a2 a3 a4 a5 a6 a7 a8 o x) pp er) :
    Calls Tryd.prog 16 #[.slice A l.length c, .agg (segV a1 a2 a3 a4 a5 a6 a7 a8 O o.length co L x.length d).toArray] w0 fun e w' => ∃ A' n c' P E, ((e6 ≠ 0 ∧ P = [] ∧ E = 21) ∨ (e6 = 0 ∧ P = pp ∧ E = er)) ∧ n = P.length ∧ e = .returned (.tuple #[.slice A' n c', .int .i64 ((E : Nat) : Int)]) ∧ NewV w0 w' A' (P.map u8v) ∧ Kp [] w0 w' := by
  have hS := (((St.sv w0).vcons rfl hv).vcons rfl hov).vcons rfl hxv
  have hbl : (segB a1 a2 a3 a4 a5 a6 a7 a8 o x).length = 20 + o.length + x.length := by simp [segB, be_length]; omega
  have hby := fun w h1 h2 => tcp_bytes_c a1 a2 a3 a4 a5 a6 a7 a8 O co L d o x w h1 h2 q1 q2 q3 q4 q5 q6 q7 q8 hr
  have hK2 : ∀ (w : World) (O2 : Option Addr) (co2 : Nat) (B : Option Addr) (n c' : Nat), n = 20 + o.length + x.length → View w w.heap.size O2 (o2.map u8v) → View w w.heap.size B ((segB a1 a2 a3 a4 a5 a6 a7 a8 o x).map u8v) → Calls Tryd.prog 35 #[.agg (hdV tos len id stay more (off : Int) ttl pr sum s d2 O2 o2.length co2).toArray, .slice B n c'] w fun e w' => ∃ A n c', n = pp.length ∧ e = .returned (.tuple #[.slice A n c', .int .i64 (er : Int)]) ∧ New w w' (.row (.slice A n c') 5 1 n (pp.map u8v)) ∧ Kp [] w w' := fun w O2 co2 B n c' hn hv2 hv => by
    rw [hn, ← hbl]
    exact hK w O2 co2 B c' hv2 hv
  clear hK
  generalize segB a1 a2 a3 a4 a5 a6 a7 a8 o x = B at *
  refine ent (n := 51) Tryd.func16 rfl rfl ?_
  refine wp_seq_k ?_; intro K1 hK1
  refine wlit ?_
  refine wl_e rfl ?_; intro K hK
  refine ow_box hS (tmA rfl rfl) rfl ?_
  clear hS; intro g0_0 w hg0_0 hS
  refine hK _ _ ?_; clear hK K
  refine wl_v (x_assign ev_c) ?_
  refine wl_v (x_assign (ev_cN 0)) ?_
  refine wl_nil ?_
  refine then_n (hK1 _ _ ?_); clear hK1 K1
  refine wp_seq_k ?_; intro K2 hK2
  refine wp_seq_k ?_; intro K3 hK3
  refine wlit ?_
  refine wl_v (x_loadA (cs := [_, _, _, _, _, _, _, _, _, _]) Tryd.underlying32 rfl ts_32 (tmP rfl rfl) (rangeB hS.ok 0 rfl rfl)) ?_
  refine wl_e rfl ?_; intro K hK
  refine ow_call Tryd.func29 rfl rfl (evs_cons (tmA rfl rfl) <| evs_nil) (tcp_right_c a1 a2 a3 a4 a5 a6 a7 a8 O o.length co L x.length d _ (by omega) (by omega)) ?_
  rintro e w ⟨rfl, hk⟩
  refine ⟨_, rfl, ?_⟩
  replace hS := hS.kept hk
  clear hk
  refine hK _ _ ?_; clear hK K
  refine wl_v (x_not (tmB rfl rfl)) ?_
  refine wl_nil ?_
  refine then_n (hK3 _ _ ?_); clear hK3 K3
  refine cnd (tm rfl) (fun hc0 => ?_) (fun hc0 => ?_)
  · exfalso
    simp at hc0
    exact hc0 hr
  try (exfalso; first | with_reducible exact absurd hc0 Bool.false_ne_true | with_reducible exact absurd hc0.symm Bool.false_ne_true | (simp only [nrm] at hc0; omega) | (simp at hc0; done))
  all_goals
   try simp only [nrm] at hc0
   refine wp_skip ?_
   refine then_n (hK2 _ _ ?_); clear hK2 K2
   refine wp_seq_k ?_; intro K4 hK4
   refine wlit ?_
   refine wl_v (x_move (tmS rfl rfl)) ?_
   refine wl_e rfl ?_; intro K hK
   refine ow_call Tryd.func30 rfl rfl (evs_cons (tmS rfl rfl) <| evs_nil) (six_c l.length A c l _ (viewV hS.ok 3 rfl) rfl hb (by omega)) ?_
   rintro e w ⟨rfl, hk⟩
   refine ⟨_, rfl, ?_⟩
   replace hS := hS.kept hk
   clear hk
   refine hK _ _ ?_; clear hK K
   refine wl_v (x_move (tmT rfl rfl)) ?_
   refine wl_v (x_ext (tmT rfl rfl) rfl) ?_
   refine wl_v (x_ext (tmT rfl rfl) rfl) ?_
   refine wl_v (x_assign (tmB rfl rfl)) ?_
   refine wl_v (x_assign (tmI rfl rfl)) ?_
   refine wl_nil ?_
   refine then_n (hK4 _ _ ?_); clear hK4 K4
   refine wp_seq_k ?_; intro K5 hK5
   refine wp_seq_k ?_; intro K6 hK6
   refine wlit ?_
   refine wl_v (x_move (tmB rfl rfl)) ?_
   refine wl_nil ?_
   refine then_n (hK6 _ _ ?_); clear hK6 K6
   refine cnd (tm rfl) (fun hc1 => ?_) (fun hc1 => ?_)
   · exfalso
     simp at hc1
     exact h6 hc1
   try (exfalso; first | with_reducible exact absurd hc1 Bool.false_ne_true | with_reducible exact absurd hc1.symm Bool.false_ne_true | (simp only [nrm] at hc1; omega) | (simp at hc1; done))
   all_goals
    try simp only [nrm] at hc1
    refine wp_skip ?_
    refine then_n (hK5 _ _ ?_); clear hK5 K5
    refine wp_seq_k ?_; intro K7 hK7
    refine wlit ?_
    refine wl_v (x_move (tmS rfl rfl)) ?_
    refine wl_e rfl ?_; intro K hK
    refine ow_call Tryd.func34 rfl rfl (evs_cons (tmS rfl rfl) <| evs_nil) (hP _ A c (viewV hS.ok 3 rfl) hc) ?_
    rintro e w ⟨O2, co2, L2, k2, c2, hk2, rfl, hnv, -, hk⟩
    refine ⟨_, rfl, ?_⟩
    replace hS := hS.addn hk hnv -- +vo2
    clear hnv hk
    refine hK _ _ ?_; clear hK K
    refine wl_v (x_move (tmT rfl rfl)) ?_
    refine wl_v (x_ext (tmT rfl rfl) rfl) ?_
    refine wl_v (x_ext (tmT rfl rfl) rfl) ?_
    refine wl_v (x_ext (tmT rfl rfl) rfl) ?_
    refine wl_e rfl ?_; intro K hK
    refine ow_alloc hS tz_88 rfl ?_
    clear hS; intro g9_6 w hg9_6 hS
    refine hK _ _ ?_; clear hK K
    refine wl_e rfl ?_; intro K hK
    refine ow_storeA hS 0 rfl ts_88 (tmP rfl rfl) (tmA rfl rfl) rfl rfl rfl ?_
    clear hS; intro w hS
    try replace hS := St.nm (M' := [.blk _ _ [_, _, _, _, _, _, _, _, _, _, _, _, _, _, _, _], .vw _ _, .blk _ _ [_, _, _, _, _, _, _, _, _, _], .vw _ _, .vw _ _, .vw _ _]) hS rfl
    refine hK _ _ ?_; clear hK K
    refine wl_v (x_assign (tmS rfl rfl)) ?_
    refine wl_v (x_assign (tmI rfl rfl)) ?_
    refine wl_nil ?_
    refine then_n (hK7 _ _ ?_); clear hK7 K7
    refine wp_seq_k ?_; intro K8 hK8
    refine wp_seq_k ?_; intro K9 hK9
    refine wlit ?_
    refine wl_v (x_move (tmI rfl rfl)) ?_
    refine wl_v (x_neq (tmI rfl rfl) (ev_cN 0)) ?_
    refine wl_nil ?_
    refine then_n (hK9 _ _ ?_); clear hK9 K9
    refine cnd (tm rfl) (fun hc3 => ?_) (fun hc3 => ?_)
    · try (exfalso; first | with_reducible exact absurd hc3 Bool.false_ne_true | with_reducible exact absurd hc3.symm Bool.false_ne_true | (simp only [nrm] at hc3; omega) | (simp at hc3; done))
      all_goals
       try simp only [nrm] at hc3
       have hne : e6 ≠ 0 := by first | omega | (simp at hc3; omega)
       refine wp_seq_k ?_; intro K10 hK10
       refine wlit ?_
       refine wl_v (x_assign ev_c) ?_
       refine wl_v (x_assign (ev_cN 21)) ?_
       refine wl_nil ?_
       refine then_n (hK10 _ _ ?_); clear hK10 K10
       refine wp_ret ?_
       refine then_r ?_
       refine ret2 rfl (.tmp rfl (show _ = Value.slice _ _ _ from rfl)) (.tmp rfl (show _ = Value.int _ _ from rfl)) ?_
       first
         | exact ⟨none, 0, 0, [], 21, .inl ⟨hne, rfl, rfl⟩, rfl, rfl, NewV.nil_ _ _ _, hS.kp⟩
         | exact ⟨A5, n5, c5, pp, er, .inr ⟨heq, rfl, rfl⟩, hn5, rfl, hS.newv (no_label_rowp) rfl, hS.kp⟩
    try (exfalso; first | with_reducible exact absurd hc3 Bool.false_ne_true | with_reducible exact absurd hc3.symm Bool.false_ne_true | (simp only [nrm] at hc3; omega) | (simp at hc3; done))
    all_goals
     try simp only [nrm] at hc3
     have heq : e6 = 0 := by first | omega | (simp at hc3; omega)
     refine wp_skip ?_
     refine then_n (hK8 _ _ ?_); clear hK8 K8
     refine wp_seq_k ?_; intro K11 hK11
     refine rg_startk 0 hS mixed_ ?_
     clear hS; intro w hS
     refine rg_take 0 rfl rfl (by kernel_rfl) (by kernel_rfl) (by kernel_rfl) (want_0) (fun w hok => x_loadA (cs := [_, _, _, _, _, _, _, _, _, _, _, _, _, _, _, _]) Tryd.underlying88 rfl ts_88 (tmP rfl rfl) (rangeB hok 0 rfl rfl)) ?_
     refine rg_take 1 rfl rfl (by kernel_rfl) (by kernel_rfl) (by kernel_rfl) (want_0) (fun w hok => x_loadA (cs := [_, _, _, _, _, _, _, _, _, _]) Tryd.underlying32 rfl ts_32 (tmP rfl rfl) (rangeB hok 2 rfl rfl)) ?_
     refine rg_step 2 rfl (by kernel_rfl) (want_0) (oks_drop hS 0 rfl) ?_; intro K hK
     refine ow_call Tryd.func33 rfl rfl (evs_cons (tmA rfl rfl) <| evs_nil) (hby _ (viewV hS.ok 4 rfl) (viewV hS.ok 3 rfl)) ?_
     rintro e w ⟨A4, n4, c4, hn4, rfl, hn, hk⟩
     refine ⟨_, rfl, ?_⟩
     replace hS := hS.add hk hn -- +rowb
     clear hn hk
     refine hK _ _ ?_; clear hK K
     refine rg_step 3 rfl (by kernel_rfl) (want_0) (oks_drop hS 1 rfl) ?_; intro K hK
     refine ow_call Tryd.func35 rfl rfl (evs_cons (tmA rfl rfl) <| evs_cons (tmS rfl rfl) <| evs_nil) (hK2 _ O2 co2 A4 n4 c4 hn4 (viewV hS.ok 2 rfl) (viewR hS.ok 0 rfl)) ?_
     rintro e w ⟨A5, n5, c5, hn5, rfl, hn, hk⟩
     refine ⟨_, rfl, ?_⟩
     replace hS := hS.add hk hn -- +rowp
     clear hn hk
     refine hK _ _ ?_; clear hK K
     refine rg_take 4 rfl rfl (by kernel_rfl) (by kernel_rfl) (by kernel_rfl) (want_0) (fun w hok => x_ext (tmT rfl rfl) rfl) ?_
     refine rg_take 5 rfl rfl (by kernel_rfl) (by kernel_rfl) (by kernel_rfl) (want_0) (fun w hok => x_ext (tmT rfl rfl) rfl) ?_
     refine rg_take 6 rfl rfl (by kernel_rfl) (by kernel_rfl) (by kernel_rfl) (want_0) (fun w hok => x_assign (tmS rfl rfl)) ?_
     refine rg_take 7 rfl rfl (by kernel_rfl) (by kernel_rfl) (by kernel_rfl) (want_0) (fun w hok => x_assign (tmI rfl rfl)) ?_
     refine rg_done (oks_drop hS 2 rfl) (by kernel_rfl) ?_
     refine then_n (hK11 _ _ ?_); clear hK11 K11
     refine wp_ret ?_
     refine ret2 rfl (.tmp rfl (show _ = Value.slice _ _ _ from rfl)) (.tmp rfl (show _ = Value.int _ _ from rfl)) ?_
     first
       | exact ⟨none, 0, 0, [], 21, .inl ⟨hne, rfl, rfl⟩, rfl, rfl, NewV.nil_ _ _ _, hS.kp⟩
       | exact ⟨A5, n5, c5, pp, er, .inr ⟨heq, rfl, rfl⟩, hn5, rfl, hS.newv 0 rfl, hS.kp⟩
set_option maxRecDepth 100000 in
set_option maxHeartbeats 4000000 in
theorem rwith_six (a1 a2 a3 a4 a5 a6 a7 a8 : Nat) (O : Option Addr) (co : Nat) (L : Option Addr) (d : Nat) (o x : List Nat) (A : Option Addr) (c : Nat) (l : List Nat) (w0 : World) (hv : View w0 w0.heap.size A (l.map u8v)) (hc : l.length ≤ c) (hb : Bytes l) (hn : l.length ≤ 3000) (hov : View w0 w0.heap.size O (o.map u8v)) (hxv : View w0 w0.heap.size L (x.map u8v)) (ho : o.length ≤ 100) (hx : x.length ≤ 2000) (q1 : a1 < 65536) (q2 : a2 < 65536) (q3 : a3 < 4294967296) (q4 : a4 < 4294967296) (q5 : a5 < 256) (q6 : a6 < 65536) (q7 : a7 < 65536) (q8 : a8 < 65536) (hr : segRight o.length x.length) (h6 : sixP l)
    (cl lb : Nat) (len : Int) (pr ttl : Nat) (s d2 : Ad) (x2 pp : List Nat) (e6 er : Nat) (hP : Parts4 39 l (fun _ _ => hd6V cl lb len pr ttl s d2) [] x2 e6) (hK : Packs 40 (fun _ _ => hd6V cl lb len pr ttl s d2) [] (segB a1 a2 a3 a4 a5 a6 a7 a8 o x) pp er) :
    Calls Tryd.prog 18 #[.slice A l.length c, .agg (segV a1 a2 a3 a4 a5 a6 a7 a8 O o.length co L x.length d).toArray] w0 fun e w' => ∃ A' n c' P E, ((e6 ≠ 0 ∧ P = [] ∧ E = 21) ∨ (e6 = 0 ∧ P = pp ∧ E = er)) ∧ n = P.length ∧ e = .returned (.tuple #[.slice A' n c', .int .i64 ((E : Nat) : Int)]) ∧ NewV w0 w' A' (P.map u8v) ∧ Kp [] w0 w' := by
  have hS := (((St.sv w0).vcons rfl hv).vcons rfl hov).vcons rfl hxv
  have hs6 : sixN l = 6 := by
    obtain ⟨h61, h62⟩ := h6
    unfold sixN
    rw [if_neg h61, if_neg (by omega), if_pos h62]
  have hbl : (segB a1 a2 a3 a4 a5 a6 a7 a8 o x).length = 20 + o.length + x.length := by simp [segB, be_length]; omega
  have hby := fun w h1 h2 => rtcp_bytes_c a1 a2 a3 a4 a5 a6 a7 a8 O co L d o x w h1 h2 q1 q2 q3 q4 q5 q6 q7 q8 hr
  have hK2 : ∀ (w : World) (B : Option Addr) (n c' : Nat), n = 20 + o.length + x.length → View w w.heap.size B ((segB a1 a2 a3 a4 a5 a6 a7 a8 o x).map u8v) → Calls Tryd.prog 40 #[.agg (hd6V cl lb len pr ttl s d2).toArray, .slice B n c'] w fun e w' => ∃ A n c', n = pp.length ∧ e = .returned (.tuple #[.slice A n c', .int .i64 (er : Int)]) ∧ New w w' (.row (.slice A n c') 5 1 n (pp.map u8v)) ∧ Kp [] w w' := fun w B n c' hn hv => by
    rw [hn, ← hbl]
    exact hK w none 0 B c' View.nil_ hv
  clear hK
  generalize segB a1 a2 a3 a4 a5 a6 a7 a8 o x = B at *
  refine ent (n := 52) Tryd.func18 rfl rfl ?_
  refine wp_seq_k ?_; intro K1 hK1
  refine wlit ?_
  refine wl_e rfl ?_; intro K hK
  refine ow_box hS (tmA rfl rfl) rfl ?_
  clear hS; intro g0_0 w hg0_0 hS
  refine hK _ _ ?_; clear hK K
  refine wl_v (x_assign ev_c) ?_
  refine wl_v (x_assign (ev_cN 0)) ?_
  refine wl_nil ?_
  refine then_n (hK1 _ _ ?_); clear hK1 K1
  refine wp_seq_k ?_; intro K2 hK2
  refine wp_seq_k ?_; intro K3 hK3
  refine wlit ?_
  refine wl_v (x_loadA (cs := [_, _, _, _, _, _, _, _, _, _]) Tryd.underlying42 rfl ts_42 (tmP rfl rfl) (rangeB hS.ok 0 rfl rfl)) ?_
  refine wl_e rfl ?_; intro K hK
  refine ow_call Tryd.func36 rfl rfl (evs_cons (tmA rfl rfl) <| evs_nil) (rtcp_right_c a1 a2 a3 a4 a5 a6 a7 a8 O o.length co L x.length d _ (by omega) (by omega)) ?_
  rintro e w ⟨rfl, hk⟩
  refine ⟨_, rfl, ?_⟩
  replace hS := hS.kept hk
  clear hk
  refine hK _ _ ?_; clear hK K
  refine wl_v (x_not (tmB rfl rfl)) ?_
  refine wl_nil ?_
  refine then_n (hK3 _ _ ?_); clear hK3 K3
  refine cnd (tm rfl) (fun hc0 => ?_) (fun hc0 => ?_)
  · exfalso
    simp at hc0
    exact hc0 hr
  try (exfalso; first | with_reducible exact absurd hc0 Bool.false_ne_true | with_reducible exact absurd hc0.symm Bool.false_ne_true | (simp only [nrm] at hc0; omega) | (simp at hc0; done))
  all_goals
   try simp only [nrm] at hc0
   refine wp_skip ?_
   refine then_n (hK2 _ _ ?_); clear hK2 K2
   refine wp_seq_k ?_; intro K4 hK4
   refine wlit ?_
   refine wl_v (x_loadA (cs := [_, _, _, _, _, _, _, _, _, _]) Tryd.underlying42 rfl ts_42 (tmP rfl rfl) (rangeB hS.ok 0 rfl rfl)) ?_
   refine wl_e rfl ?_; intro K hK
   refine ow_call Tryd.func37 rfl rfl (evs_cons (tmA rfl rfl) <| evs_nil) (hby _ (viewV hS.ok 2 rfl) (viewV hS.ok 1 rfl)) ?_
   rintro e w ⟨A4, n4, c4, hn4, rfl, hn, hk⟩
   refine ⟨_, rfl, ?_⟩
   replace hS := hS.add hk hn -- +rowb
   clear hn hk
   refine hK _ _ ?_; clear hK K
   refine wl_v (x_assign (tmS rfl rfl)) ?_
   refine wl_nil ?_
   refine then_n (hK4 _ _ ?_); clear hK4 K4
   refine wp_seq_k ?_; intro K5 hK5
   refine wp_seq_k ?_; intro K6 hK6
   refine wlit ?_
   refine wl_v (x_move (tmS rfl rfl)) ?_
   refine wl_e rfl ?_; intro K hK
   refine ow_call Tryd.func38 rfl rfl (evs_cons (tmS rfl rfl) <| evs_nil) (rsix_c l.length A c l _ (viewV hS.ok 4 rfl) rfl hb (by omega)) ?_
   rintro e w ⟨rfl, hk⟩
   refine ⟨_, rfl, ?_⟩
   replace hS := hS.kept hk
   clear hk
   refine hK _ _ ?_; clear hK K
   refine wl_v (x_eql (tmI rfl rfl) (ev_cN 6)) ?_
   refine wl_nil ?_
   refine then_n (hK6 _ _ ?_); clear hK6 K6
   refine cnds (tm rfl) (fun hc1 => ?_) (fun hc1 => ?_)
   · exfalso
     simp [hs6] at hc1
   try (exfalso; first | with_reducible exact absurd hc1 Bool.false_ne_true | with_reducible exact absurd hc1.symm Bool.false_ne_true | (simp only [nrm] at hc1; omega) | (simp at hc1; done))
   all_goals
    try simp only [nrm] at hc1
    refine wp_seq_k ?_; intro K7 hK7
    refine wlit ?_
    refine wl_v (x_move (tmS rfl rfl)) ?_
    refine wl_e rfl ?_; intro K hK
    refine ow_call Tryd.func39 rfl rfl (evs_cons (tmS rfl rfl) <| evs_nil) (hP _ A c (viewV hS.ok 4 rfl) hc) ?_
    rintro e w ⟨_, _, L2, k2, c2, hk2, rfl, -, -, hk⟩
    refine ⟨_, rfl, ?_⟩
    replace hS := hS.kept hk
    clear hk
    refine hK _ _ ?_; clear hK K
    refine wl_v (x_move (tmT rfl rfl)) ?_
    refine wl_v (x_ext (tmT rfl rfl) rfl) ?_
    refine wl_v (x_ext (tmT rfl rfl) rfl) ?_
    refine wl_v (x_ext (tmT rfl rfl) rfl) ?_
    refine wl_e rfl ?_; intro K hK
    refine ow_alloc hS tz_95 rfl ?_
    clear hS; intro g5_6 w hg5_6 hS
    refine hK _ _ ?_; clear hK K
    refine wl_e rfl ?_; intro K hK
    refine ow_storeA hS 0 rfl ts_95 (tmP rfl rfl) (tmA rfl rfl) rfl rfl rfl ?_
    clear hS; intro w hS
    try replace hS := St.nm (M' := [.blk _ _ [_, _, _, _, _, _, _, _, _, _, _], .row _ _ _ _ _, .blk _ _ [_, _, _, _, _, _, _, _, _, _], .vw _ _, .vw _ _, .vw _ _]) hS rfl
    refine hK _ _ ?_; clear hK K
    refine wl_v (x_assign (tmS rfl rfl)) ?_
    refine wl_v (x_assign (tmI rfl rfl)) ?_
    refine wl_nil ?_
    refine then_n (hK7 _ _ ?_); clear hK7 K7
    refine wp_seq_k ?_; intro K8 hK8
    refine wp_seq_k ?_; intro K9 hK9
    refine wlit ?_
    refine wl_v (x_move (tmI rfl rfl)) ?_
    refine wl_v (x_neq (tmI rfl rfl) (ev_cN 0)) ?_
    refine wl_nil ?_
    refine then_n (hK9 _ _ ?_); clear hK9 K9
    refine cnd (tm rfl) (fun hc2 => ?_) (fun hc2 => ?_)
    · try (exfalso; first | with_reducible exact absurd hc2 Bool.false_ne_true | with_reducible exact absurd hc2.symm Bool.false_ne_true | (simp only [nrm] at hc2; omega) | (simp at hc2; done))
      all_goals
       try simp only [nrm] at hc2
       have hne : e6 ≠ 0 := by first | omega | (simp at hc2; omega)
       refine wp_seq_k ?_; intro K10 hK10
       refine wlit ?_
       refine wl_v (x_assign ev_c) ?_
       refine wl_v (x_assign (ev_cN 21)) ?_
       refine wl_nil ?_
       refine then_n (hK10 _ _ ?_); clear hK10 K10
       refine wp_ret ?_
       refine then_r ?_
       refine then_r ?_
       refine ret2 rfl (.tmp rfl (show _ = Value.slice _ _ _ from rfl)) (.tmp rfl (show _ = Value.int _ _ from rfl)) ?_
       first
         | exact ⟨none, 0, 0, [], 21, .inl ⟨hne, rfl, rfl⟩, rfl, rfl, NewV.nil_ _ _ _, hS.kp⟩
         | exact ⟨A5, n5, c5, pp, er, .inr ⟨heq, rfl, rfl⟩, hn5, rfl, hS.newv (no_label_rowp) rfl, hS.kp⟩
    try (exfalso; first | with_reducible exact absurd hc2 Bool.false_ne_true | with_reducible exact absurd hc2.symm Bool.false_ne_true | (simp only [nrm] at hc2; omega) | (simp at hc2; done))
    all_goals
     try simp only [nrm] at hc2
     have heq : e6 = 0 := by first | omega | (simp at hc2; omega)
     refine wp_skip ?_
     refine then_n (hK8 _ _ ?_); clear hK8 K8
     refine wp_seq_k ?_; intro K11 hK11
     refine wlit ?_
     refine wl_v (x_loadA (cs := [_, _, _, _, _, _, _, _, _, _, _]) Tryd.underlying95 rfl ts_95 (tmP rfl rfl) (rangeB hS.ok 0 rfl rfl)) ?_
     refine wl_v (x_move (tmS rfl rfl)) ?_
     refine wl_e rfl ?_; intro K hK
     refine ow_call Tryd.func40 rfl rfl (evs_cons (tmA rfl rfl) <| evs_cons (tmS rfl rfl) <| evs_nil) (hK2 _ A4 n4 c4 hn4 (viewR hS.ok 1 rfl)) ?_
     rintro e w ⟨A5, n5, c5, hn5, rfl, hn, hk⟩
     refine ⟨_, rfl, ?_⟩
     replace hS := hS.add hk hn -- +rowp
     clear hn hk
     refine hK _ _ ?_; clear hK K
     refine wl_v (x_ext (tmT rfl rfl) rfl) ?_
     refine wl_v (x_ext (tmT rfl rfl) rfl) ?_
     refine wl_v (x_assign (tmS rfl rfl)) ?_
     refine wl_v (x_assign (tmI rfl rfl)) ?_
     refine wl_nil ?_
     refine then_n (hK11 _ _ ?_); clear hK11 K11
     refine wp_ret ?_
     refine then_r ?_
     refine ret2 rfl (.tmp rfl (show _ = Value.slice _ _ _ from rfl)) (.tmp rfl (show _ = Value.int _ _ from rfl)) ?_
     first
       | exact ⟨none, 0, 0, [], 21, .inl ⟨hne, rfl, rfl⟩, rfl, rfl, NewV.nil_ _ _ _, hS.kp⟩
       | exact ⟨A5, n5, c5, pp, er, .inr ⟨heq, rfl, rfl⟩, hn5, rfl, hS.newv 0 rfl, hS.kp⟩
set_option maxRecDepth 100000 in
set_option maxHeartbeats 4000000 in
theorem rwith_four (a1 a2 a3 a4 a5 a6 a7 a8 : Nat) (O : Option Addr) (co : Nat) (L : Option Addr) (d : Nat) (o x : List Nat) (A : Option Addr) (c : Nat) (l : List Nat) (w0 : World) (hv : View w0 w0.heap.size A (l.map u8v)) (hc : l.length ≤ c) (hb : Bytes l) (hn : l.length ≤ 3000) (hov : View w0 w0.heap.size O (o.map u8v)) (hxv : View w0 w0.heap.size L (x.map u8v)) (ho : o.length ≤ 100) (hx : x.length ≤ 2000) (q1 : a1 < 65536) (q2 : a2 < 65536) (q3 : a3 < 4294967296) (q4 : a4 < 4294967296) (q5 : a5 < 256) (q6 : a6 < 65536) (q7 : a7 < 65536) (q8 : a8 < 65536) (hr : segRight o.length x.length) (h6 : ¬ sixP l)
    (tos : Nat) (len : Int) (id : Nat) (stay more : Bool) (off ttl pr sum : Nat) (s d2 : Ad) (o2 x2 pp : List Nat) (e6 er : Nat) (h04 : e6 = 0 → sixN l = 4) (hP : Parts4 41 l (fun O c => hdV tos len id stay more (off : Int) ttl pr sum s d2 O o2.length c) o2 x2 e6) (hK : Packs 42 (fun O c => hdV tos len id stay more (off : Int) ttl pr sum s d2 O o2.length c) o2 (segB a1 a2 a3 a4 a5 a6 a7 a8 o x) pp er) :
    Calls Tryd.prog 18 #[.slice A l.length c, .agg (segV a1 a2 a3 a4 a5 a6 a7 a8 O o.length co L x.length d).toArray] w0 fun e w' => ∃ A' n c' P E, ((e6 ≠ 0 ∧ P = [] ∧ E = 21) ∨ (e6 = 0 ∧ P = pp ∧ E = er)) ∧ n = P.length ∧ e = .returned (.tuple #[.slice A' n c', .int .i64 ((E : Nat) : Int)]) ∧ NewV w0 w' A' (P.map u8v) ∧ Kp [] w0 w' := by
  have hS := (((St.sv w0).vcons rfl hv).vcons rfl hov).vcons rfl hxv
  have hs6 : ¬ sixN l = 6 := fun h => h6 (by
    unfold sixN at h
    split at h
    · omega
    · split at h
      · omega
      · split at h
        · next h1 _ h2 => exact ⟨h1, h2⟩
        · omega)
  have hbl : (segB a1 a2 a3 a4 a5 a6 a7 a8 o x).length = 20 + o.length + x.length := by simp [segB, be_length]; omega
  have hby := fun w h1 h2 => rtcp_bytes_c a1 a2 a3 a4 a5 a6 a7 a8 O co L d o x w h1 h2 q1 q2 q3 q4 q5 q6 q7 q8 hr
  have hK2 : ∀ (w : World) (O2 : Option Addr) (co2 : Nat) (B : Option Addr) (n c' : Nat), n = 20 + o.length + x.length → View w w.heap.size O2 (o2.map u8v) → View w w.heap.size B ((segB a1 a2 a3 a4 a5 a6 a7 a8 o x).map u8v) → Calls Tryd.prog 42 #[.agg (hdV tos len id stay more (off : Int) ttl pr sum s d2 O2 o2.length co2).toArray, .slice B n c'] w fun e w' => ∃ A n c', n = pp.length ∧ e = .returned (.tuple #[.slice A n c', .int .i64 (er : Int)]) ∧ New w w' (.row (.slice A n c') 5 1 n (pp.map u8v)) ∧ Kp [] w w' := fun w O2 co2 B n c' hn hv2 hv => by
    rw [hn, ← hbl]
    exact hK w O2 co2 B c' hv2 hv
  clear hK
  generalize segB a1 a2 a3 a4 a5 a6 a7 a8 o x = B at *
  refine ent (n := 52) Tryd.func18 rfl rfl ?_
  refine wp_seq_k ?_; intro K1 hK1
  refine wlit ?_
  refine wl_e rfl ?_; intro K hK
  refine ow_box hS (tmA rfl rfl) rfl ?_
  clear hS; intro g0_0 w hg0_0 hS
  refine hK _ _ ?_; clear hK K
  refine wl_v (x_assign ev_c) ?_
  refine wl_v (x_assign (ev_cN 0)) ?_
  refine wl_nil ?_
  refine then_n (hK1 _ _ ?_); clear hK1 K1
  refine wp_seq_k ?_; intro K2 hK2
  refine wp_seq_k ?_; intro K3 hK3
  refine wlit ?_
  refine wl_v (x_loadA (cs := [_, _, _, _, _, _, _, _, _, _]) Tryd.underlying42 rfl ts_42 (tmP rfl rfl) (rangeB hS.ok 0 rfl rfl)) ?_
  refine wl_e rfl ?_; intro K hK
  refine ow_call Tryd.func36 rfl rfl (evs_cons (tmA rfl rfl) <| evs_nil) (rtcp_right_c a1 a2 a3 a4 a5 a6 a7 a8 O o.length co L x.length d _ (by omega) (by omega)) ?_
  rintro e w ⟨rfl, hk⟩
  refine ⟨_, rfl, ?_⟩
  replace hS := hS.kept hk
  clear hk
  refine hK _ _ ?_; clear hK K
  refine wl_v (x_not (tmB rfl rfl)) ?_
  refine wl_nil ?_
  refine then_n (hK3 _ _ ?_); clear hK3 K3
  refine cnd (tm rfl) (fun hc0 => ?_) (fun hc0 => ?_)
  · exfalso
    simp at hc0
    exact hc0 hr
  try (exfalso; first | with_reducible exact absurd hc0 Bool.false_ne_true | with_reducible exact absurd hc0.symm Bool.false_ne_true | (simp only [nrm] at hc0; omega) | (simp at hc0; done))
  all_goals
   try simp only [nrm] at hc0
   refine wp_skip ?_
   refine then_n (hK2 _ _ ?_); clear hK2 K2
   refine wp_seq_k ?_; intro K4 hK4
   refine wlit ?_
   refine wl_v (x_loadA (cs := [_, _, _, _, _, _, _, _, _, _]) Tryd.underlying42 rfl ts_42 (tmP rfl rfl) (rangeB hS.ok 0 rfl rfl)) ?_
   refine wl_e rfl ?_; intro K hK
   refine ow_call Tryd.func37 rfl rfl (evs_cons (tmA rfl rfl) <| evs_nil) (hby _ (viewV hS.ok 2 rfl) (viewV hS.ok 1 rfl)) ?_
   rintro e w ⟨A4, n4, c4, hn4, rfl, hn, hk⟩
   refine ⟨_, rfl, ?_⟩
   replace hS := hS.add hk hn -- +rowb
   clear hn hk
   refine hK _ _ ?_; clear hK K
   refine wl_v (x_assign (tmS rfl rfl)) ?_
   refine wl_nil ?_
   refine then_n (hK4 _ _ ?_); clear hK4 K4
   refine wp_seq_k ?_; intro K5 hK5
   refine wp_seq_k ?_; intro K6 hK6
   refine wlit ?_
   refine wl_v (x_move (tmS rfl rfl)) ?_
   refine wl_e rfl ?_; intro K hK
   refine ow_call Tryd.func38 rfl rfl (evs_cons (tmS rfl rfl) <| evs_nil) (rsix_c l.length A c l _ (viewV hS.ok 4 rfl) rfl hb (by omega)) ?_
   rintro e w ⟨rfl, hk⟩
   refine ⟨_, rfl, ?_⟩
   replace hS := hS.kept hk
   clear hk
   refine hK _ _ ?_; clear hK K
   refine wl_v (x_eql (tmI rfl rfl) (ev_cN 6)) ?_
   refine wl_nil ?_
   refine then_n (hK6 _ _ ?_); clear hK6 K6
   refine cnd (tm rfl) (fun hc1 => ?_) (fun hc1 => ?_)
   · exfalso
     exact hs6 (by simpa using hc1)
   try (exfalso; first | with_reducible exact absurd hc1 Bool.false_ne_true | with_reducible exact absurd hc1.symm Bool.false_ne_true | (simp only [nrm] at hc1; omega) | (simp at hc1; done))
   all_goals
    try simp only [nrm] at hc1
    refine wp_skip ?_
    refine then_n (hK5 _ _ ?_); clear hK5 K5
    refine wp_seq_k ?_; intro K7 hK7
    refine wlit ?_
    refine wl_v (x_move (tmS rfl rfl)) ?_
    refine wl_e rfl ?_; intro K hK
    refine ow_call Tryd.func41 rfl rfl (evs_cons (tmS rfl rfl) <| evs_nil) (hP _ A c (viewV hS.ok 4 rfl) hc) ?_
    rintro e w ⟨O2, co2, L2, k2, c2, hk2, rfl, hnv, -, hk⟩
    refine ⟨_, rfl, ?_⟩
    replace hS := hS.addn hk hnv -- +vo2
    clear hnv hk
    refine hK _ _ ?_; clear hK K
    refine wl_v (x_move (tmT rfl rfl)) ?_
    refine wl_v (x_ext (tmT rfl rfl) rfl) ?_
    refine wl_v (x_ext (tmT rfl rfl) rfl) ?_
    refine wl_v (x_ext (tmT rfl rfl) rfl) ?_
    refine wl_e rfl ?_; intro K hK
    refine ow_alloc hS tz_99 rfl ?_
    clear hS; intro g9_6 w hg9_6 hS
    refine hK _ _ ?_; clear hK K
    refine wl_e rfl ?_; intro K hK
    refine ow_storeA hS 0 rfl ts_99 (tmP rfl rfl) (tmA rfl rfl) rfl rfl rfl ?_
    clear hS; intro w hS
    try replace hS := St.nm (M' := [.blk _ _ [_, _, _, _, _, _, _, _, _, _, _, _, _, _, _, _], .vw _ _, .row _ _ _ _ _, .blk _ _ [_, _, _, _, _, _, _, _, _, _], .vw _ _, .vw _ _, .vw _ _]) hS rfl
    refine hK _ _ ?_; clear hK K
    refine wl_v (x_assign (tmS rfl rfl)) ?_
    refine wl_v (x_assign (tmI rfl rfl)) ?_
    refine wl_nil ?_
    refine then_n (hK7 _ _ ?_); clear hK7 K7
    refine wp_seq_k ?_; intro K8 hK8
    refine wp_seq_k ?_; intro K9 hK9
    refine wlit ?_
    refine wl_v (x_move (tmI rfl rfl)) ?_
    refine wl_v (x_neq (tmI rfl rfl) (ev_cN 0)) ?_
    refine wl_v (x_move (tmB rfl rfl)) ?_
    refine gs_wl (tm (t := 42) rfl) (fun hg10_2 => ?_) (fun hg10_2 => ?_)
    · have hg10_2' := hg10_2; (try simp only [nrm] at hg10_2'); try (exfalso; first | with_reducible exact absurd hg10_2 Bool.false_ne_true | with_reducible exact absurd hg10_2.symm Bool.false_ne_true | omega | (simp at hg10_2; done))
      all_goals
       refine wl_s rfl (want_n rfl rfl rfl rfl (by rw [hg10_2]; rfl)) ?_
       refine wl_s rfl (want_n rfl rfl rfl rfl (by rw [hg10_2]; rfl)) ?_
       refine wl_s rfl (want_n rfl rfl rfl rfl (by rw [hg10_2]; rfl)) ?_
       refine wl_v (x_pickT (tmB rfl rfl) hg10_2 ev_c) ?_
       refine wl_nil ?_
       refine then_n (hK9 _ _ ?_); clear hK9 K9
       refine cnd_t (tmB rfl rfl) rfl ?_
       refine wp_seq_k ?_; intro K10 hK10
       have hne : e6 ≠ 0 := by first | omega | (exfalso; have := h04 (by omega); omega) | (exfalso; have := h04 (by omega); simp_all)
       refine wlit ?_
       refine wl_v (x_assign ev_c) ?_
       refine wl_v (x_assign (ev_cN 21)) ?_
       refine wl_nil ?_
       refine then_n (hK10 _ _ ?_); clear hK10 K10
       refine wp_ret ?_
       refine then_r ?_
       refine ret2 rfl (.tmp rfl (show _ = Value.slice _ _ _ from rfl)) (.tmp rfl (show _ = Value.int _ _ from rfl)) ?_
       first
         | exact ⟨none, 0, 0, [], 21, .inl ⟨hne, rfl, rfl⟩, rfl, rfl, NewV.nil_ _ _ _, hS.kp⟩
         | exact ⟨A5, n5, c5, pp, er, .inr ⟨heq, rfl, rfl⟩, hn5, rfl, hS.newv (no_label_rowp) rfl, hS.kp⟩
    have hg10_2' := hg10_2; (try simp only [nrm] at hg10_2'); try (exfalso; first | with_reducible exact absurd hg10_2 Bool.false_ne_true | with_reducible exact absurd hg10_2.symm Bool.false_ne_true | omega | (simp at hg10_2; done))
    all_goals
     refine wl_gv (want_y rfl rfl rfl rfl (by rw [hg10_2]; rfl)) (x_move (tmS rfl rfl)) ?_
     refine wl_g (want_y rfl rfl rfl rfl (by rw [hg10_2]; rfl)) ?_; intro K hK
     refine ow_call Tryd.func38 rfl rfl (evs_cons (tmS rfl rfl) <| evs_nil) (rsix_c l.length A c l _ (viewV hS.ok 6 rfl) rfl hb (by omega)) ?_
     rintro e w ⟨rfl, hk⟩
     refine ⟨_, rfl, ?_⟩
     replace hS := hS.kept hk
     clear hk
     refine hK _ _ ?_; clear hK K
     refine wl_gv (want_y rfl rfl rfl rfl (by rw [hg10_2]; rfl)) (x_neq (tmI rfl rfl) (ev_cN 4)) ?_
     refine wl_v (x_pickF (tmB rfl rfl) hg10_2 (tmB rfl rfl)) ?_
     refine wl_nil ?_
     refine then_n (hK9 _ _ ?_); clear hK9 K9
     refine cnd (tm rfl) (fun hc3 => ?_) (fun hc3 => ?_)
     · try (exfalso; first | with_reducible exact absurd hc3 Bool.false_ne_true | with_reducible exact absurd hc3.symm Bool.false_ne_true | (simp only [nrm] at hc3; omega) | (simp at hc3; done))
       all_goals
        try simp only [nrm] at hc3
        refine wp_seq_k ?_; intro K11 hK11
        have hne : e6 ≠ 0 := by first | omega | (exfalso; have := h04 (by omega); omega) | (exfalso; have := h04 (by omega); simp_all)
        refine wlit ?_
        refine wl_v (x_assign ev_c) ?_
        refine wl_v (x_assign (ev_cN 21)) ?_
        refine wl_nil ?_
        refine then_n (hK11 _ _ ?_); clear hK11 K11
        refine wp_ret ?_
        refine then_r ?_
        refine ret2 rfl (.tmp rfl (show _ = Value.slice _ _ _ from rfl)) (.tmp rfl (show _ = Value.int _ _ from rfl)) ?_
        first
          | exact ⟨none, 0, 0, [], 21, .inl ⟨hne, rfl, rfl⟩, rfl, rfl, NewV.nil_ _ _ _, hS.kp⟩
          | exact ⟨A5, n5, c5, pp, er, .inr ⟨heq, rfl, rfl⟩, hn5, rfl, hS.newv (no_label_rowp) rfl, hS.kp⟩
     try (exfalso; first | with_reducible exact absurd hc3 Bool.false_ne_true | with_reducible exact absurd hc3.symm Bool.false_ne_true | (simp only [nrm] at hc3; omega) | (simp at hc3; done))
     all_goals
      try simp only [nrm] at hc3
      refine wp_skip ?_
      refine then_n (hK8 _ _ ?_); clear hK8 K8
      refine wp_seq_k ?_; intro K12 hK12
      have heq : e6 = 0 := by omega
      refine wlit ?_
      refine wl_v (x_loadA (cs := [_, _, _, _, _, _, _, _, _, _, _, _, _, _, _, _]) Tryd.underlying99 rfl ts_99 (tmP rfl rfl) (rangeB hS.ok 0 rfl rfl)) ?_
      refine wl_v (x_move (tmS rfl rfl)) ?_
      refine wl_e rfl ?_; intro K hK
      refine ow_call Tryd.func42 rfl rfl (evs_cons (tmA rfl rfl) <| evs_cons (tmS rfl rfl) <| evs_nil) (hK2 _ O2 co2 A4 n4 c4 hn4 (viewV hS.ok 1 rfl) (viewR hS.ok 2 rfl)) ?_
      rintro e w ⟨A5, n5, c5, hn5, rfl, hn, hk⟩
      refine ⟨_, rfl, ?_⟩
      replace hS := hS.add hk hn -- +rowp
      clear hn hk
      refine hK _ _ ?_; clear hK K
      refine wl_v (x_ext (tmT rfl rfl) rfl) ?_
      refine wl_v (x_ext (tmT rfl rfl) rfl) ?_
      refine wl_v (x_assign (tmS rfl rfl)) ?_
      refine wl_v (x_assign (tmI rfl rfl)) ?_
      refine wl_nil ?_
      refine then_n (hK12 _ _ ?_); clear hK12 K12
      refine wp_ret ?_
      refine ret2 rfl (.tmp rfl (show _ = Value.slice _ _ _ from rfl)) (.tmp rfl (show _ = Value.int _ _ from rfl)) ?_
      first
        | exact ⟨none, 0, 0, [], 21, .inl ⟨hne, rfl, rfl⟩, rfl, rfl, NewV.nil_ _ _ _, hS.kp⟩
        | exact ⟨A5, n5, c5, pp, er, .inr ⟨heq, rfl, rfl⟩, hn5, rfl, hS.newv 0 rfl, hS.kp⟩
end Go.Proofs.YtmekadkmmddocaaDoor
