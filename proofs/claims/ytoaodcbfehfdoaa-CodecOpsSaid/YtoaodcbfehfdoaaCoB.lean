
/- codec: Op by contract. Conditions: none but bounds. -/
import Derived.Test.YtoaodcbfehfdoaaCoA
namespace Go.Proofs.Ytoaodcbfehfdoaa
open Go.ChangeShapes Go.WideShapes Go.ChangeAt Go.RowKit
set_option maxRecDepth 100000 in
set_option maxHeartbeats 4000000 in
theorem asize_c (a : Ad) (w0 : World) : Calls Try.prog 43 #[.agg a.V.toArray] w0 fun e w' => e = .returned (.int .i64 ((adN a : Nat) : Int)) ∧ Kp [] w0 w' := by
  obtain ⟨six, high, low⟩ := a
  have hS := St.sv w0
  refine ent (n := 5) Try.func43 rfl rfl ?_
  refine wp_seq_k ?_; intro K1 hK1
  refine wlit ?_
  refine wl_e rfl ?_; intro K hK
  refine ow_box hS (tmA rfl rfl) rfl ?_
  clear hS; intro g0_0 w hg0_0 hS
  refine hK _ _ ?_; clear hK K
  refine wl_v (x_assign (ev_cN 0)) ?_
  refine wl_nil ?_
  refine then_n (hK1 _ _ ?_); clear hK1 K1
  refine wp_seq_k ?_; intro K2 hK2
  refine wp_seq_k ?_; intro K3 hK3
  refine wlit ?_
  refine wl_v (x_fa 0 Try.underlying24 rfl rfl ts_4 (tmP rfl rfl)) ?_
  first
   | refine wl_v (x_load Try.underlying4 rfl (tmP rfl rfl) (cellB hS.ok 0 rfl rfl)) ?_
   | refine wl_v (x_load Try.underlying4 rfl (tmP rfl rfl) (cellB hS.ok 0 rfl (getm (by omega)))) ?_
  refine wl_nil ?_
  refine then_n (hK3 _ _ ?_); clear hK3 K3
  refine cnd (tm rfl) (fun hc0 => ?_) (fun hc0 => ?_)
  · try (exfalso; first | with_reducible exact absurd hc0 Bool.false_ne_true | with_reducible exact absurd hc0.symm Bool.false_ne_true | (simp only [nrm] at hc0; omega) | (simp at hc0; done))
    all_goals
     try simp only [nrm] at hc0
     subst hc0
     refine wp_seq_k ?_; intro K4 hK4
     refine wlit ?_
     refine wl_v (x_assign (ev_cN 16)) ?_
     refine wl_nil ?_
     refine then_n (hK4 _ _ ?_); clear hK4 K4
     refine wp_ret ?_
     refine then_r ?_
     refine ret1 rfl (.tmp rfl (show _ = Value.int _ _ from rfl)) ?_
     exact ⟨rfl, hS.kp⟩
  try (exfalso; first | with_reducible exact absurd hc0 Bool.false_ne_true | with_reducible exact absurd hc0.symm Bool.false_ne_true | (simp only [nrm] at hc0; omega) | (simp at hc0; done))
  all_goals
   try simp only [nrm] at hc0
   subst hc0
   refine wp_skip ?_
   refine then_n (hK2 _ _ ?_); clear hK2 K2
   refine wp_seq_k ?_; intro K5 hK5
   refine wlit ?_
   refine wl_v (x_assign (ev_cN 4)) ?_
   refine wl_nil ?_
   refine then_n (hK5 _ _ ?_); clear hK5 K5
   refine wp_ret ?_
   refine ret1 rfl (.tmp rfl (show _ = Value.int _ _ from rfl)) ?_
   exact ⟨rfl, hS.kp⟩
def tn (zs : List Int) : List Nat := zs.map Int.toNat
theorem tn_snoc (zs : List Int) (k : Nat) (h : k < zs.length) : tn (zs.take (k + 1)) = tn (zs.take k) ++ [(zs.getD k default).toNat] := by
  unfold tn
  rw [List.take_succ_eq_append_getElem h, List.map_append, List.getD_eq_getElem?_getD, List.getElem?_eq_getElem h]
  rfl
set_option maxRecDepth 100000 in
set_option maxHeartbeats 8000000 in
theorem pbytes_c (G : Option Addr) (m cg : Nat) (x : List Nat) (Z : Option Addr) (n cz : Nat) (zs : List Int) (F : List Nat) (w0 : World) (hS : St F w0 [.row (.slice G m cg) 5 1 m (x.map u8v), .vw Z (zs.map iv)] w0) (hl : zs.length = n) (hz : ∀ z ∈ zs, okI z) (hb : m + n ≤ 100000) :
    Calls Try.prog 27 #[.slice G m cg, .slice Z n cz] w0 fun e w' => ∃ G' cg', e = .returned (.slice G' (m + n) cg') ∧ St F w0 [.row (.slice G' (m + n) cg') 5 1 (m + n) ((x ++ tn zs).map u8v)] w' := by
  refine ent (n := 20) Try.func27 rfl rfl ?_
  refine wp_seq_k ?_; intro K1 hK1
  refine wlit ?_
  refine wl_v (x_assign ev_c) ?_
  refine wl_nil ?_
  refine then_n (hK1 _ _ ?_); clear hK1 K1
  refine wp_seq_k ?_; intro K2 hK2
  refine wp_seq_k ?_; intro K3 hK3
  refine wlit ?_
  refine wl_v (x_move (tmS rfl rfl)) ?_
  refine wl_v (x_len Try.underlying87 (tmS rfl rfl)) ?_
  refine wl_v (x_move (ev_cN 0)) ?_
  refine wl_nil ?_
  refine then_n (hK3 _ _ ?_); clear hK3 K3
  refine wp_block ?_
  rw [show x.map u8v = (x ++ tn (zs.take 0)).map u8v from by simp [tn]] at hS
  refine lp [0, 6, 9, 10, 11, 12, 13, 14, 15, 16, 17, 18] (fun mz g w => ∃ (k : Nat), ∃ (G1 : Option Addr), ∃ (c1 : Nat), mz = n - k ∧ g 9 = .int .i64 (k : Int) ∧ g 0 = .slice G1 (m + k) c1 ∧ St F w0 [.row (.slice G1 (m + k) c1) 5 1 (m + k) ((x ++ tn (zs.take k)).map u8v), .vw Z (zs.map iv)] w ∧ (k ≤ n)) ?_ ?_
  · exact ⟨_, 0, G, cg, rfl, (by first | rfl | go_num | exact congrArg (Value.int _) (by first | omega | (simp; done) | (simp; omega))), (by first | rfl | go_num | exact congrArg (Value.int _) (by first | omega | (simp; done) | (simp; omega))), hS, (by omega)⟩
  · clear hS; intro mz g w hI
    obtain ⟨k, G1, c1, rfl, hs9, hs0, hS, hk⟩ := hI
    refine fr_know (d := 9) hs9 ?_; clear hs9
    refine fr_know (d := 0) hs0 ?_; clear hs0
    refine wp_seq_k ?_; intro K4 hK4
    refine wlit ?_
    refine wl_v (x_lss (tmI rfl rfl) (tmI rfl rfl)) ?_
    refine wl_nil ?_
    refine then_n (hK4 _ _ ?_); clear hK4 K4
    refine wp_seq_k ?_; intro K5 hK5
    refine cnd (tm rfl) (fun hc0 => ?_) (fun hc0 => ?_)
    · try (exfalso; first | with_reducible exact absurd hc0 Bool.false_ne_true | with_reducible exact absurd hc0.symm Bool.false_ne_true | (simp only [nrm] at hc0; omega) | (simp at hc0; done))
      all_goals
       try simp only [nrm] at hc0
       refine wp_skip ?_
       refine then_n (hK5 _ _ ?_); clear hK5 K5
       refine wp_seq_k ?_; intro K6 hK6
       refine wp_block ?_
       refine wp_seq_k ?_; intro K7 hK7
       obtain ⟨b4, o4, rfl⟩ := view_some (viewV hS.ok 1 rfl) (by rw [List.length_map]; omega)
       have hzk := hz _ (gmem (l := zs) (k := k) (by omega))
       obtain ⟨zn, hzn⟩ : ∃ zn : Nat, zs.getD k default = (zn : Int) := Int.eq_ofNat_of_zero_le hzk.1
       have hzn2 : zn ≤ 255 := by have := hzk.2; omega
       have hznt : (zs.getD k default).toNat = zn := by rw [hzn]; rfl
       refine wlit ?_
       refine wl_v (x_ixs1 Try.underlying87 ts_3 (tmS rfl rfl) (tmI rfl rfl) (by omega)) ?_
       refine wl_v (x_load (v := .int .i64 (zn : Int)) Try.underlying3 rfl (tmP rfl rfl) (cellV hS.ok 1 rfl (by rw [← hzn]; exact gget (by omega)))) ?_
       refine wl_v (x_assign (tmI rfl rfl)) ?_
       refine wl_nil ?_
       refine then_n (hK7 _ _ ?_); clear hK7 K7
       refine wlit ?_
       refine wl_v (x_move (tmS rfl rfl)) ?_
       refine wl_v (x_move (tmI rfl rfl)) ?_
       first
        | refine wl_v (x_convN Try.underlying3 Try.underlying5 (tmI rfl rfl) (fit_u8 (by omega))) ?_
        | refine wl_v (x_convU Try.underlying3 Try.underlying5 (tmI rfl rfl) rfl) ?_
        | refine wl_v (x_conv Try.underlying3 Try.underlying5 (tmI rfl rfl)) ?_
       refine wl_e rfl ?_; intro K hK
       refine ow_build hS Try.underlying29 tz_5 (bc_take (tmI rfl rfl) <| bc_nil) rfl rfl (by kernel_rfl) ?_
       clear hS; intro g4_3 w hg4_3 hS
       refine hK _ _ ?_; clear hK K
       refine wl_e rfl ?_; intro K hK
       (refine ow_append hS 1 0 rfl rfl Try.underlying29 tz_5 rfl (tmS rfl rfl) (tmS rfl rfl) rfl ⟨by decide, by decide, rfl⟩ (by simp only [maxLen]; omega) (by omega) ?_; clear hS; intro g4_4 cg4_4 w hS)
       refine hK _ _ ?_; clear hK K
       refine wl_v (x_assign (tmS rfl rfl)) ?_
       refine wl_nil ?_
       refine inb_n ?_
       refine then_n (hK6 _ _ ?_); clear hK6 K6
       refine wlit ?_
       first
        | refine wl_v (x_addN (tmI rfl rfl) (ev_cN 1) (fit_i64 (by omega))) ?_
        | refine wl_v (x_addI (tmI rfl rfl) (ev_cN 1) (IntWalk.i64_in _ (by omega))) ?_
        | refine wl_v (x_add (tmI rfl rfl) (ev_cN 1)) ?_
       refine wl_v (x_move (tmI rfl rfl)) ?_
       refine wl_nil ?_
       exact then_n ⟨_, _, rfl, (by show _ < _; omega), (by repeat (first | exact agree_self | exact agree_refl | refine agree_upd rfl ?_ | refine agree_mix rfl ?_)), k + 1, _, _, rfl, (by first | rfl | go_num | exact congrArg (Value.int _) (by first | omega | (simp; done) | (simp; omega))), (by first | rfl | go_num | exact congrArg (Value.int _) (by first | omega | (simp; done) | (simp; omega))), (by rw [tn_snoc _ _ (by omega), hznt, ← List.append_assoc, List.map_append]; exact hS.pick [1, 2] rfl rfl), (by omega)⟩
    try (exfalso; first | with_reducible exact absurd hc0 Bool.false_ne_true | with_reducible exact absurd hc0.symm Bool.false_ne_true | (simp only [nrm] at hc0; omega) | (simp at hc0; done))
    all_goals
     try simp only [nrm] at hc0
     refine wp_exit ?_
     refine then_x ?_; clear hK5 K5
     refine then_x ?_
     refine inb_x ?_
     refine then_n (hK2 _ _ ?_); clear hK2 K2
     refine wp_seq_k ?_; intro K8 hK8
     refine wlit ?_
     refine wl_v (x_move (tmS rfl rfl)) ?_
     refine wl_v (x_assign (tmS rfl rfl)) ?_
     refine wl_nil ?_
     refine then_n (hK8 _ _ ?_); clear hK8 K8
     refine wp_ret ?_
     refine ret1 rfl (.tmp rfl (show _ = Value.slice _ _ _ from rfl)) ?_
     obtain rfl : n = k := by omega
     rw [List.take_of_length_le (by omega)] at hS
     exact ⟨_, _, rfl, hS.pick [0] rfl rfl⟩
def adE (a : Ad) : List Nat := adN a :: adB a
theorem adE_len (a : Ad) : (adE a).length = 1 + adN a := by unfold adE; rw [List.length_cons, adB_len]; omega
theorem adN_le (a : Ad) : adN a ≤ 16 := by unfold adN; cases a.six <;> decide
set_option maxRecDepth 100000 in
set_option maxHeartbeats 8000000 in
theorem paddr_c (G : Option Addr) (m cg : Nat) (x : List Nat) (a : Ad) (F : List Nat) (w0 : World) (hS : St F w0 [.row (.slice G m cg) 5 1 m (x.map u8v)] w0) (hla : adLim a) (hb : m ≤ 90000) :
    Calls Try.prog 28 #[.slice G m cg, .agg a.V.toArray] w0 fun e w' => ∃ G' m' cg', e = .returned (.slice G' m' cg') ∧ m' = m + 1 + adN a ∧ St F w0 [.row (.slice G' m' cg') 5 1 m' ((x ++ adE a).map u8v)] w' := by
  have hn16 := adN_le a
  refine ent (n := 13) Try.func28 rfl rfl ?_
  refine wp_seq_k ?_; intro K1 hK1
  refine wlit ?_
  refine wl_e rfl ?_; intro K hK
  refine ow_box hS (tmA rfl rfl) rfl ?_
  clear hS; intro g0_0 w hg0_0 hS
  refine hK _ _ ?_; clear hK K
  refine wl_v (x_assign ev_c) ?_
  refine wl_nil ?_
  refine then_n (hK1 _ _ ?_); clear hK1 K1
  refine wp_seq_k ?_; intro K2 hK2
  replace hS := hS.pick [1, 0] rfl rfl
  try replace hS := St.nm (M' := [.row _ _ _ _ _, .blk _ _ [_, _, _]]) hS rfl
  refine rg_startk 1 hS mixed_ ?_
  clear hS; intro w hS
  refine rg_take 0 rfl rfl (by kernel_rfl) (by kernel_rfl) (by kernel_rfl) (want_0) (fun w hok => x_move (tmS rfl rfl)) ?_
  refine rg_take 1 rfl rfl (by kernel_rfl) (by kernel_rfl) (by kernel_rfl) (want_0) (fun w hok => x_loadA (cs := [_, _, _]) Try.underlying24 rfl ts_24 (tmP rfl rfl) (rangeB hok 0 rfl rfl)) ?_
  refine rg_take 5 rfl rfl (by kernel_rfl) (by kernel_rfl) (by kernel_rfl) (want_0) (fun w hok => x_loadA (cs := [_, _, _]) Try.underlying24 rfl ts_24 (tmP rfl rfl) (rangeB hok 0 rfl rfl)) ?_
  refine rg_step 2 rfl (by kernel_rfl) (want_0) (oks_drop hS 1 rfl) ?_; intro K hK
  refine ow_call Try.func43 rfl rfl (evs_cons (tmA rfl rfl) <| evs_nil) (asize_c a _) ?_
  rintro e w ⟨rfl, hk⟩
  refine ⟨_, rfl, ?_⟩
  replace hS := hS.kept hk
  clear hk
  refine hK _ _ ?_; clear hK K
  refine rg_step 3 rfl (by kernel_rfl) (want_0) (oks_drop hS 1 rfl) ?_; intro K hK
  refine ow_build hS Try.underlying87 tz_3 (bc_take (tmI rfl rfl) <| bc_nil) rfl rfl (by kernel_rfl) ?_
  clear hS; intro g1_3 w hg1_3 hS
  refine hK _ _ ?_; clear hK K
  refine rg_step 4 rfl (by kernel_rfl) (want_0) (oks_drop hS 2 rfl) ?_; intro K hK
  refine ow_call Try.func27 rfl rfl (evs_cons (tmS rfl rfl) <| evs_cons (tmS rfl rfl) <| evs_nil) (pbytes_c G m cg x (some ⟨g1_3, 0, none⟩) 1 1 [((adN a : Nat) : Int)] _ _ (hS.enter [1] [0] rfl rfl) rfl (by intro z hz; obtain rfl := List.mem_singleton.1 hz; unfold okI; omega) (by omega)) ?_
  rintro e w ⟨G1, c1, rfl, hS2⟩
  refine ⟨_, rfl, ?_⟩
  replace hS := hS.leave [1] [0, 2] rfl rfl rfl hS2 rfl --ents row,g1_3,g0_0
  clear hS2
  try replace hS := St.nm (M' := [.row _ _ _ _ _, _, .blk _ _ [_, _, _]]) hS rfl
  refine hK _ _ ?_; clear hK K
  refine rg_step 6 rfl (by kernel_rfl) (want_0) (oks_drop hS 2 rfl) ?_; intro K hK
  refine ow_call Try.func44 rfl rfl (evs_cons (tmA rfl rfl) <| evs_nil) (ad_bytes_c a _ hla) ?_
  rintro e w ⟨A2, n2, c2, rfl, rfl, hn, hk⟩
  refine ⟨_, rfl, ?_⟩
  replace hS := hS.add hk hn -- +rowb
  clear hn hk
  refine hK _ _ ?_; clear hK K
  refine rg_step 7 rfl (by kernel_rfl) (want_0) (oks_drop hS 3 rfl) ?_; intro K hK
  refine ow_appendV hS 1 rfl (viewR hS.ok 0 rfl) Try.underlying29 tz_5 rfl (tmS rfl rfl) (tmS rfl rfl) (u8v_one _) ⟨by decide, by rw [List.length_map, adB_len, Nat.mul_one]⟩ (by simp only [maxLen]; omega) (by omega) ?_
  clear hS; intro gz cz w hAz hCz hS
  rw [← List.map_append, List.append_assoc] at hS
  refine hK _ _ ?_; clear hK K
  refine rg_take 8 rfl rfl (by kernel_rfl) (by kernel_rfl) (by kernel_rfl) (want_0) (fun w hok => x_assign (tmS rfl rfl)) ?_
  refine rg_done (oks_drop hS 3 rfl) (by kernel_rfl) ?_
  refine then_n (hK2 _ _ ?_); clear hK2 K2
  refine wp_ret ?_
  refine ret1 rfl (.tmp rfl (show _ = Value.slice _ _ _ from rfl)) ?_
  exact ⟨_, _, _, rfl, rfl, hS.pick [1] rfl rfl⟩
def msE (l : List Mm) : List Nat := (l.map fun p => [p.1.toNat, p.2.toNat]).flatten
theorem msE_snoc (l : List Mm) (k : Nat) (h : k < l.length) : msE (l.take (k + 1)) = msE (l.take k) ++ tn [(l.getD k default).1, (l.getD k default).2] := by
  unfold msE tn
  rw [List.take_succ_eq_append_getElem h, List.map_append, List.flatten_append, List.getD_eq_getElem?_getD, List.getElem?_eq_getElem h]
  rfl
theorem msE_len (l : List Mm) : (msE l).length = 2 * l.length := by
  unfold msE
  induction l with
  | nil => rfl
  | cons x l ih =>
    rw [List.map_cons, List.flatten_cons, List.length_append, ih]
    simp
    omega
set_option maxRecDepth 100000 in
set_option maxHeartbeats 8000000 in
theorem pmembers_c (G : Option Addr) (m cg : Nat) (x : List Nat) (L : Option Addr) (n c : Nat) (l : List Mm) (F : List Nat) (w0 : World) (hS : St F w0 [.row (.slice G m cg) 5 1 m (x.map u8v), .vw L (flat mmV l)] w0) (hl : l.length = n) (hn : n ≤ 64) (hok : okMs l) (hb : m ≤ 90000) :
    Calls Try.prog 30 #[.slice G m cg, .slice L n c] w0 fun e w' => ∃ G' m' cg', e = .returned (.slice G' m' cg') ∧ m' = m + 1 + 2 * n ∧ St F w0 [.row (.slice G' m' cg') 5 1 m' ((x ++ (n :: msE l)).map u8v)] w' := by
  have hfl := flat_length (enc := mmV) (l := l) mmV_len
  refine ent (n := 27) Try.func30 rfl rfl ?_
  refine wp_seq_k ?_; intro K1 hK1
  refine wlit ?_
  refine wl_v (x_assign ev_c) ?_
  refine wl_nil ?_
  refine then_n (hK1 _ _ ?_); clear hK1 K1
  refine wp_seq_k ?_; intro K2 hK2
  refine wlit ?_
  refine wl_v (x_move (tmS rfl rfl)) ?_
  refine wl_v (x_move (tmS rfl rfl)) ?_
  refine wl_v (x_len Try.underlying33 (tmS rfl rfl)) ?_
  refine wl_e rfl ?_; intro K hK
  refine ow_build hS Try.underlying87 tz_3 (bc_take (tmI rfl rfl) <| bc_nil) rfl rfl (by kernel_rfl) ?_
  clear hS; intro g1_3 w hg1_3 hS
  refine hK _ _ ?_; clear hK K
  refine wl_e rfl ?_; intro K hK
  refine ow_call Try.func27 rfl rfl (evs_cons (tmS rfl rfl) <| evs_cons (tmS rfl rfl) <| evs_nil) (pbytes_c G m cg x (some ⟨g1_3, 0, none⟩) 1 1 [((n : Nat) : Int)] _ _ (hS.enter [1] [0] rfl rfl) rfl (by intro z hz; obtain rfl := List.mem_singleton.1 hz; unfold okI; omega) (by omega)) ?_
  rintro e w ⟨G1, c1, rfl, hS2⟩
  refine ⟨_, rfl, ?_⟩
  replace hS := hS.leave [1] [2] rfl rfl rfl hS2 rfl --ents row,vl
  clear hS2
  try replace hS := St.nm (M' := [.row _ _ _ _ _, .vw _ _]) hS rfl
  refine hK _ _ ?_; clear hK K
  refine wl_v (x_assign (tmS rfl rfl)) ?_
  refine wl_nil ?_
  refine then_n (hK2 _ _ ?_); clear hK2 K2
  refine wp_seq_k ?_; intro K3 hK3
  refine wp_seq_k ?_; intro K4 hK4
  refine wlit ?_
  refine wl_v (x_move (tmS rfl rfl)) ?_
  refine wl_v (x_len Try.underlying33 (tmS rfl rfl)) ?_
  refine wl_v (x_move (ev_cN 0)) ?_
  refine wl_nil ?_
  refine then_n (hK4 _ _ ?_); clear hK4 K4
  refine wp_block ?_
  rw [show x ++ tn [((n : Nat) : Int)] = x ++ (n :: msE (l.take 0)) from rfl] at hS
  refine lp [0, 6, 14, 15, 16, 17, 18, 19, 20, 21, 22, 23, 24, 25] (fun mz g w => ∃ (k : Nat), ∃ (G1 : Option Addr), ∃ (m1 c1 : Nat), mz = n - k ∧ g 14 = .int .i64 (k : Int) ∧ g 0 = .slice G1 m1 c1 ∧ St F w0 [.row (.slice G1 m1 c1) 5 1 m1 ((x ++ (n :: msE (l.take k))).map u8v), .vw L (flat mmV l)] w ∧ (k ≤ n) ∧ (m1 = m + 1 + 2 * k)) ?_ ?_
  · exact ⟨_, 0, _, _, _, rfl, (by first | rfl | go_num | exact congrArg (Value.int _) (by first | omega | (simp; done) | (simp; omega))), (by first | rfl | go_num | exact congrArg (Value.int _) (by first | omega | (simp; done) | (simp; omega))), hS, (by omega), (by omega)⟩
  · clear hS; intro mz g w hI
    obtain ⟨k, G1, m1, c1, rfl, hs14, hs0, hS, hk, hm1⟩ := hI
    refine fr_know (d := 14) hs14 ?_; clear hs14
    refine fr_know (d := 0) hs0 ?_; clear hs0
    refine wp_seq_k ?_; intro K5 hK5
    refine wlit ?_
    refine wl_v (x_lss (tmI rfl rfl) (tmI rfl rfl)) ?_
    refine wl_nil ?_
    refine then_n (hK5 _ _ ?_); clear hK5 K5
    refine wp_seq_k ?_; intro K6 hK6
    refine cnd (tm rfl) (fun hc0 => ?_) (fun hc0 => ?_)
    · try (exfalso; first | with_reducible exact absurd hc0 Bool.false_ne_true | with_reducible exact absurd hc0.symm Bool.false_ne_true | (simp only [nrm] at hc0; omega) | (simp at hc0; done))
      all_goals
       try simp only [nrm] at hc0
       refine wp_skip ?_
       refine then_n (hK6 _ _ ?_); clear hK6 K6
       refine wp_seq_k ?_; intro K7 hK7
       refine wp_block ?_
       refine wp_seq_k ?_; intro K8 hK8
       obtain ⟨b4, o4, rfl⟩ := view_some (viewV hS.ok 1 rfl) (by rw [hfl]; omega)
       have hpk := hok _ (gmem (l := l) (k := k) (by omega))
       refine wlit ?_
       refine wl_v (x_ixs Try.underlying33 ts_64 (tmS rfl rfl) (tmI rfl rfl) (by omega)) ?_
       first
        | refine wl_v (x_loadA Try.underlying64 rfl (by exact ts_64) (tmP rfl rfl) (rangeRs hS.ok 0 rfl (fun _ => rfl) (by omega))) ?_
        | refine wl_v (x_loadA Try.underlying64 rfl (by exact ts_64) (tmP rfl rfl) (rangeVs hS.ok 1 rfl (fun _ => rfl) (by omega))) ?_
       refine wl_e rfl ?_; intro K hK
       refine ow_alloc hS tz_64 rfl ?_
       clear hS; intro g4_2 w hg4_2 hS
       refine hK _ _ ?_; clear hK K
       refine wl_e rfl ?_; intro K hK
       refine ow_storeA hS 0 rfl ts_64 (tmP rfl rfl) (tmA rfl rfl) rfl rfl rfl ?_
       clear hS; intro w hS
       refine hK _ _ ?_; clear hK K
       refine wl_nil ?_
       refine then_n (hK8 _ _ ?_); clear hK8 K8
       refine wlit ?_
       refine wl_v (x_move (tmS rfl rfl)) ?_
       refine wl_v (x_fa 0 Try.underlying64 rfl rfl ts_3 (tmP rfl rfl)) ?_
       first
        | refine wl_v (x_load Try.underlying3 rfl (tmP rfl rfl) (cellB hS.ok 0 rfl rfl)) ?_
        | refine wl_v (x_load Try.underlying3 rfl (tmP rfl rfl) (cellB hS.ok 0 rfl (getm (by omega)))) ?_
       refine wl_v (x_fa 1 Try.underlying64 rfl rfl ts_3 (tmP rfl rfl)) ?_
       first
        | refine wl_v (x_load Try.underlying3 rfl (tmP rfl rfl) (cellB hS.ok 0 rfl rfl)) ?_
        | refine wl_v (x_load Try.underlying3 rfl (tmP rfl rfl) (cellB hS.ok 0 rfl (getm (by omega)))) ?_
       refine wl_e rfl ?_; intro K hK
       refine ow_build hS Try.underlying87 tz_3 (bc_take (tmI rfl rfl) <| bc_take (tmI rfl rfl) <| bc_nil) rfl rfl (by kernel_rfl) ?_
       clear hS; intro g5_5 w hg5_5 hS
       refine hK _ _ ?_; clear hK K
       refine wl_e rfl ?_; intro K hK
       refine ow_call Try.func27 rfl rfl (evs_cons (tmS rfl rfl) <| evs_cons (tmS rfl rfl) <| evs_nil) (pbytes_c G1 m1 c1 (x ++ (n :: msE (l.take k))) (some ⟨g5_5, 0, none⟩) 2 2 [(l.getD k default).1, (l.getD k default).2] _ _ (hS.enter [2] [0] rfl rfl) rfl (by intro z hz; simp only [List.mem_cons, List.not_mem_nil, or_false] at hz; rcases hz with rfl | rfl; exact hpk.1; exact hpk.2) (by omega)) ?_
       rintro e w ⟨G2, c2, rfl, hS2⟩
       refine ⟨_, rfl, ?_⟩
       replace hS := hS.leave [2] [3] rfl rfl rfl hS2 rfl --ents row,vl
       clear hS2
       have hSn := hS
       rw [List.append_assoc, List.cons_append] at hSn
       try replace hS := St.nm (M' := [.row _ _ _ _ _, .vw _ _]) hS rfl
       refine hK _ _ ?_; clear hK K
       refine wl_v (x_assign (tmS rfl rfl)) ?_
       refine wl_nil ?_
       refine inb_n ?_
       refine then_n (hK7 _ _ ?_); clear hK7 K7
       refine wlit ?_
       first
        | refine wl_v (x_addN (tmI rfl rfl) (ev_cN 1) (fit_i64 (by omega))) ?_
        | refine wl_v (x_addI (tmI rfl rfl) (ev_cN 1) (IntWalk.i64_in _ (by omega))) ?_
        | refine wl_v (x_add (tmI rfl rfl) (ev_cN 1)) ?_
       refine wl_v (x_move (tmI rfl rfl)) ?_
       refine wl_nil ?_
       exact then_n ⟨_, _, rfl, (by show _ < _; omega), (by repeat (first | exact agree_self | exact agree_refl | refine agree_upd rfl ?_ | refine agree_mix rfl ?_)), k + 1, _, _, _, rfl, (by first | rfl | go_num | exact congrArg (Value.int _) (by first | omega | (simp; done) | (simp; omega))), (by first | rfl | go_num | exact congrArg (Value.int _) (by first | omega | (simp; done) | (simp; omega))), (by rw [msE_snoc _ _ (by omega)]; exact hSn), (by omega), (by omega)⟩
    try (exfalso; first | with_reducible exact absurd hc0 Bool.false_ne_true | with_reducible exact absurd hc0.symm Bool.false_ne_true | (simp only [nrm] at hc0; omega) | (simp at hc0; done))
    all_goals
     try simp only [nrm] at hc0
     refine wp_exit ?_
     refine then_x ?_; clear hK6 K6
     refine then_x ?_
     refine inb_x ?_
     refine then_n (hK3 _ _ ?_); clear hK3 K3
     refine wp_seq_k ?_; intro K9 hK9
     refine wlit ?_
     refine wl_v (x_move (tmS rfl rfl)) ?_
     refine wl_v (x_assign (tmS rfl rfl)) ?_
     refine wl_nil ?_
     refine then_n (hK9 _ _ ?_); clear hK9 K9
     refine wp_ret ?_
     refine ret1 rfl (.tmp rfl (show _ = Value.slice _ _ _ from rfl)) ?_
     obtain rfl : n = k := by omega
     rw [List.take_of_length_le (by omega)] at hS
     exact ⟨_, _, _, rfl, hm1, hS.pick [0] rfl rfl⟩
end Go.Proofs.Ytoaodcbfehfdoaa
