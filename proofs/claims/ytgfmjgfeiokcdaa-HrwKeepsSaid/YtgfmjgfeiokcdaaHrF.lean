
/- hrw.Pick, and the law's light and to, by contract. Conditions: none but bounds. -/
import Derived.Test.YtgfmjgfeiokcdaaHrE
namespace Go.Proofs.Ytgfmjgfeiokcdaa
open Go.RowKit
/-- Who is picked, and whether anybody is. -/
def pkI (l : List Sc) : Int := match l with | [] => 0 | p :: _ => p.1
def pkB (l : List Sc) : Bool := match l with | [] => false | _ :: _ => true
set_option maxRecDepth 100000 in
set_option maxHeartbeats 4000000 in
theorem pick_c (k : Nat → Nat) (L : Option Addr) (nl cl : Nat) (l : List Mb) (B : Option Addr) (nb cb : Nat) (b : List Nat) (w0 : World) (hkb : Bytes (kL k)) (hvl : View w0 w0.heap.size L (flat mv l)) (hll : l.length = nl) (hnl : nl ≤ 12) (hok : ∀ p ∈ l, Mok p) (hv : View w0 w0.heap.size B (b.map u8v)) (hl : b.length = nb) (hb : Bytes b) (hn4 : nb ≤ 1000) :
    Calls Try.prog 12 #[.agg (kC k).toArray, .slice L nl cl, .slice B nb cb] w0 fun e w' => e = .returned (.tuple #[.int .i64 (pkI (ranked k b l)), .bool (pkB (ranked k b l))]) ∧ Kp [] w0 w' := by
  have hS := ((St.sv w0).vcons rfl hv).vcons rfl hvl
  have hrc := fun w h1 h2 => rank_c k L nl cl l B nb cb b w hkb h1 hll hnl hok h2 hl hb hn4
  generalize ranked k b l = R at *
  refine ent (n := 19) Try.func12 rfl rfl ?_
  refine wp_seq_k ?_; intro K1 hK1
  refine wlit ?_
  refine wl_e rfl ?_; intro K hK
  refine ow_box hS (tmA rfl rfl) rfl ?_
  clear hS; intro g0_0 w hg0_0 hS
  refine hK _ _ ?_; clear hK K
  refine wl_v (x_assign (ev_cN 0)) ?_
  refine wl_v (x_assign ev_c) ?_
  refine wl_nil ?_
  refine then_n (hK1 _ _ ?_); clear hK1 K1
  refine wp_seq_k ?_; intro K2 hK2
  refine wlit ?_
  refine wl_v (x_loadA (cs := [_, _, _, _, _, _, _, _, _, _, _, _, _, _, _, _]) Try.underlying43 rfl ts_43 (tmP rfl rfl) (rangeB hS.ok 0 rfl rfl)) ?_
  refine wl_v (x_move (tmS rfl rfl)) ?_
  refine wl_v (x_move (tmS rfl rfl)) ?_
  refine wl_e rfl ?_; intro K hK
  refine ow_call Try.func7 rfl rfl (evs_cons (tmA rfl rfl) <| evs_cons (tmS rfl rfl) <| evs_cons (tmS rfl rfl) <| evs_nil) (hrc _ (viewV hS.ok 1 rfl) (viewV hS.ok 2 rfl)) ?_
  rintro e w ⟨G, ng, cg, hng, rfl, hn, hk⟩
  refine ⟨_, rfl, ?_⟩
  replace hS := hS.add hk hn -- +row
  clear hn hk
  subst hng
  refine hK _ _ ?_; clear hK K
  refine wl_v (x_assign (tmS rfl rfl)) ?_
  refine wl_nil ?_
  refine then_n (hK2 _ _ ?_); clear hK2 K2
  refine wp_seq_k ?_; intro K3 hK3
  refine wp_seq_k ?_; intro K4 hK4
  refine wlit ?_
  refine wl_v (x_move (tmS rfl rfl)) ?_
  refine wl_v (x_len Try.underlying27 (tmS rfl rfl)) ?_
  refine wl_v (x_eql (tmI rfl rfl) (ev_cN 0)) ?_
  refine wl_nil ?_
  refine then_n (hK4 _ _ ?_); clear hK4 K4
  refine cnd (tm rfl) (fun hc0 => ?_) (fun hc0 => ?_)
  · try (exfalso; first | with_reducible exact absurd hc0 Bool.false_ne_true | with_reducible exact absurd hc0.symm Bool.false_ne_true | (simp only [nrm] at hc0; omega) | (simp at hc0; done))
    all_goals
     try simp only [nrm] at hc0
     obtain rfl : R = [] := List.eq_nil_of_length_eq_zero (by first | omega | (simp at hc0; omega))
     refine wp_seq_k ?_; intro K5 hK5
     refine wlit ?_
     refine wl_v (x_assign (ev_cN 0)) ?_
     refine wl_v (x_assign ev_c) ?_
     refine wl_nil ?_
     refine then_n (hK5 _ _ ?_); clear hK5 K5
     refine wp_ret ?_
     refine then_r ?_
     refine ret2 rfl (.tmp rfl (show _ = Value.int _ _ from rfl)) (.tmp rfl (show _ = Value.bool _ from rfl)) ?_
     exact ⟨rfl, hS.kp⟩
  try (exfalso; first | with_reducible exact absurd hc0 Bool.false_ne_true | with_reducible exact absurd hc0.symm Bool.false_ne_true | (simp only [nrm] at hc0; omega) | (simp at hc0; done))
  all_goals
   try simp only [nrm] at hc0
   obtain ⟨ga, rfl⟩ := row_some (hS.rowOk 0 rfl) (by first | omega | (simp at hc0; omega))
   obtain ⟨p, R', rfl⟩ : ∃ p R', R = p :: R' := by
     cases R with
     | nil => exact absurd rfl hc0
     | cons p R' => exact ⟨p, R', rfl⟩
   refine wp_skip ?_
   refine then_n (hK3 _ _ ?_); clear hK3 K3
   refine wp_seq_k ?_; intro K6 hK6
   refine wlit ?_
   refine wl_v (x_move (tmS rfl rfl)) ?_
   refine wl_v (x_ixs1 Try.underlying27 ts_3 (tmS rfl rfl) (ev_cN 0) (by rw [List.length_cons]; omega)) ?_
   refine wl_v (x_load (v := .int .i64 p.1) Try.underlying3 rfl (tmP rfl rfl) (cellR hS.ok 0 rfl rfl)) ?_
   refine wl_v (x_assign (tmI rfl rfl)) ?_
   refine wl_v (x_assign ev_c) ?_
   refine wl_nil ?_
   refine then_n (hK6 _ _ ?_); clear hK6 K6
   refine wp_ret ?_
   refine ret2 rfl (.tmp rfl (show _ = Value.int _ _ from rfl)) (.tmp rfl (show _ = Value.bool _ from rfl)) ?_
   exact ⟨rfl, hS.kp⟩
set_option maxRecDepth 100000 in
set_option maxHeartbeats 4000000 in
theorem to16_c (L : Option Addr) (nl cl : Nat) (l : List Mb) (w0 : World) (hvl : View w0 w0.heap.size L (flat mv l)) (hll : l.length = nl) (hnl : nl ≤ 1000) :
    Calls Try.prog 8 #[.slice L nl cl] w0 fun e w' => ∃ G cg, e = .returned (.slice G nl cg) ∧ New w0 w' (.row (.slice G nl cg) 35 2 nl (flat mv l)) ∧ Kp [] w0 w' := by
  have hS := (St.sv w0).vcons rfl hvl
  refine ent (n := 26) Try.func8 rfl rfl ?_
  refine wp_seq_k ?_; intro K1 hK1
  refine wlit ?_
  refine wl_v (x_assign ev_c) ?_
  refine wl_nil ?_
  refine then_n (hK1 _ _ ?_); clear hK1 K1
  refine wp_seq_k ?_; intro K2 hK2
  refine wlit ?_
  refine wl_v (x_assign ev_c) ?_
  refine wl_nil ?_
  refine then_n (hK2 _ _ ?_); clear hK2 K2
  refine wp_seq_k ?_; intro K3 hK3
  refine wp_seq_k ?_; intro K4 hK4
  refine wlit ?_
  refine wl_v (x_assign (ev_cN 0)) ?_
  refine wl_nil ?_
  refine then_n (hK4 _ _ ?_); clear hK4 K4
  refine wp_block ?_
  have hS := hS.nilrow 35 2 --ents row,vl
  refine lp [3, 4, 5, 6, 7, 8, 9, 10, 11, 12, 13, 14, 15, 16, 17, 18, 19, 20, 21, 22, 23, 24] (fun mz g w => ∃ (i : Nat), ∃ (G : Option Addr), ∃ (cg : Nat), mz = nl - i ∧ g 4 = .int .i64 (i : Int) ∧ g 3 = .slice G i cg ∧ St [] w0 [.row (.slice G i cg) 35 2 i (flat mv (l.take i)), .vw L (flat mv l)] w ∧ (i ≤ nl)) ?_ ?_
  · exact ⟨_, 0, none, 0, rfl, (by first | rfl | go_num | exact congrArg (Value.int _) (by first | omega | (simp; done) | (simp; omega))), (by first | rfl | go_num | exact congrArg (Value.int _) (by first | omega | (simp; done) | (simp; omega))), hS, (by omega)⟩
  · clear hS; intro mz g w hI
    obtain ⟨i, G, cg, rfl, hs4, hs3, hS, hi⟩ := hI
    refine fr_know (d := 4) hs4 ?_; clear hs4
    refine fr_know (d := 3) (upd_ne rfl hs3) ?_; clear hs3
    refine wp_seq_k ?_; intro K5 hK5
    refine wp_seq_k ?_; intro K6 hK6
    refine wlit ?_
    refine wl_v (x_move (tmI rfl rfl)) ?_
    refine wl_v (x_move (tmS rfl rfl)) ?_
    refine wl_v (x_len Try.underlying23 (tmS rfl rfl)) ?_
    refine wl_v (x_lss (tmI rfl rfl) (tmI rfl rfl)) ?_
    refine wl_nil ?_
    refine then_n (hK6 _ _ ?_); clear hK6 K6
    refine cnd (tm rfl) (fun hc0 => ?_) (fun hc0 => ?_)
    · try (exfalso; first | with_reducible exact absurd hc0 Bool.false_ne_true | with_reducible exact absurd hc0.symm Bool.false_ne_true | (simp only [nrm] at hc0; omega) | (simp at hc0; done))
      all_goals
       try simp only [nrm] at hc0
       obtain ⟨b4, o4, rfl⟩ := view_some (viewV hS.ok 1 rfl) (by rw [flat_length mv_len]; omega)
       have hx : flat mv (l.take (i + 1)) = flat mv (l.take i) ++ mv (l.getD i default) := by rw [List.take_succ_eq_append_getElem (by omega), flat_snoc, List.getD_eq_getElem?_getD, List.getElem?_eq_getElem (by omega)]; rfl
       refine wp_skip ?_
       refine then_n (hK5 _ _ ?_); clear hK5 K5
       refine wp_seq_k ?_; intro K7 hK7
       refine wp_block ?_
       refine rg_startk 1 hS mixed_ ?_
       clear hS; intro w hS
       refine rg_take 0 rfl rfl (by kernel_rfl) (by kernel_rfl) (by kernel_rfl) (want_0) (fun w hok => x_move (tmS rfl rfl)) ?_
       refine rg_take 1 rfl rfl (by kernel_rfl) (by kernel_rfl) (by kernel_rfl) (want_0) (fun w hok => x_move (tmS rfl rfl)) ?_
       refine rg_take 2 rfl rfl (by kernel_rfl) (by kernel_rfl) (by kernel_rfl) (want_0) (fun w hok => x_move (tmI rfl rfl)) ?_
       refine rg_take 3 rfl rfl (by kernel_rfl) (by kernel_rfl) (by kernel_rfl) (want_0) (fun w hok => x_ixs Try.underlying23 ts_37 (tmS rfl rfl) (tmI rfl rfl) (by omega)) ?_
       refine rg_take 4 rfl rfl (by kernel_rfl) (by kernel_rfl) (by kernel_rfl) (want_0) (fun w hok => x_fa 0 Try.underlying37 rfl rfl ts_3 (tmP rfl rfl)) ?_
       first
        | refine rg_take 5 rfl rfl (by kernel_rfl) (by kernel_rfl) (by kernel_rfl) (want_0) (fun w hok => x_load Try.underlying3 rfl (tmP rfl rfl) (cellV hok 0 rfl rfl)) ?_
        | refine rg_take 5 rfl rfl (by kernel_rfl) (by kernel_rfl) (by kernel_rfl) (want_0) (fun w hok => x_load Try.underlying3 rfl (tmP rfl rfl) (cellV hok 0 rfl (getm (by omega)))) ?_
        | refine rg_take 5 rfl rfl (by kernel_rfl) (by kernel_rfl) (by kernel_rfl) (want_0) (fun w hok => x_load Try.underlying3 rfl (tmP rfl rfl) (cellVs hok 0 rfl (fun _ => rfl) rfl (by omega) rfl)) ?_
       refine rg_take 6 rfl rfl (by kernel_rfl) (by kernel_rfl) (by kernel_rfl) (want_0) (fun w hok => x_move (tmS rfl rfl)) ?_
       refine rg_take 7 rfl rfl (by kernel_rfl) (by kernel_rfl) (by kernel_rfl) (want_0) (fun w hok => x_move (tmI rfl rfl)) ?_
       refine rg_take 8 rfl rfl (by kernel_rfl) (by kernel_rfl) (by kernel_rfl) (want_0) (fun w hok => x_ixs Try.underlying23 ts_37 (tmS rfl rfl) (tmI rfl rfl) (by omega)) ?_
       refine rg_take 9 rfl rfl (by kernel_rfl) (by kernel_rfl) (by kernel_rfl) (want_0) (fun w hok => x_fa 1 Try.underlying37 rfl rfl ts_3 (tmP rfl rfl)) ?_
       first
        | refine rg_take 10 rfl rfl (by kernel_rfl) (by kernel_rfl) (by kernel_rfl) (want_0) (fun w hok => x_load Try.underlying3 rfl (tmP rfl rfl) (cellV hok 0 rfl rfl)) ?_
        | refine rg_take 10 rfl rfl (by kernel_rfl) (by kernel_rfl) (by kernel_rfl) (want_0) (fun w hok => x_load Try.underlying3 rfl (tmP rfl rfl) (cellV hok 0 rfl (getm (by omega)))) ?_
        | refine rg_take 10 rfl rfl (by kernel_rfl) (by kernel_rfl) (by kernel_rfl) (want_0) (fun w hok => x_load Try.underlying3 rfl (tmP rfl rfl) (cellVs hok 0 rfl (fun _ => rfl) rfl (by omega) rfl)) ?_
       refine rg_take 11 rfl rfl (by kernel_rfl) (by kernel_rfl) (by kernel_rfl) (want_0) (fun w hok => x_build (bc_take (tmI rfl rfl) <| bc_take (tmI rfl rfl) <| bc_nil) (by kernel_rfl)) ?_
       refine rg_step 12 rfl (by kernel_rfl) (want_0) (oks_drop hS 1 rfl) ?_; intro K hK
       refine ow_build hS Try.underlying29 tz_35 (bc_takeL (tmA rfl rfl) <| bc_nil) rfl rfl (by kernel_rfl) ?_
       clear hS; intro g5_12 w hg5_12 hS
       refine hK _ _ ?_; clear hK K
       refine rg_step 13 rfl (by kernel_rfl) (want_0) (oks_drop hS 2 rfl) ?_; intro K hK
       (refine ow_append hS 1 0 rfl rfl Try.underlying29 tz_35 rfl (tmS rfl rfl) (tmS rfl rfl) rfl ⟨by decide, by decide, rfl⟩ (by simp only [maxLen]; omega) (by omega) ?_; clear hS; intro g5_13 cg5_13 w hS)
       refine hK _ _ ?_; clear hK K
       refine rg_take 14 rfl rfl (by kernel_rfl) (by kernel_rfl) (by kernel_rfl) (want_0) (fun w hok => x_assign (tmS rfl rfl)) ?_
       refine rg_done (oks_drop hS 2 rfl) (by kernel_rfl) ?_
       refine inb_n ?_
       refine then_n (hK7 _ _ ?_); clear hK7 K7
       refine wlit ?_
       refine wl_v (x_move (tmI rfl rfl)) ?_
       first
        | refine wl_v (x_addN (tmI rfl rfl) (ev_cN 1) (fit_i64 (by omega))) ?_
        | refine wl_v (x_addI (tmI rfl rfl) (ev_cN 1) (IntWalk.i64_in _ (by omega))) ?_
        | refine wl_v (x_add (tmI rfl rfl) (ev_cN 1)) ?_
       refine wl_v (x_assign (tmI rfl rfl)) ?_
       refine wl_nil ?_
       exact then_n ⟨_, _, rfl, (by show _ < _; omega), (by repeat (first | exact agree_self | exact agree_refl | refine agree_upd rfl ?_ | refine agree_mix rfl ?_)), i + 1, _, _, rfl, (by first | rfl | go_num | exact congrArg (Value.int _) (by first | omega | (simp; done) | (simp; omega))), (by first | rfl | go_num | exact congrArg (Value.int _) (by first | omega | (simp; done) | (simp; omega))), (by rw [hx]; exact hS.pick [1, 2] rfl rfl), (by omega)⟩
    try (exfalso; first | with_reducible exact absurd hc0 Bool.false_ne_true | with_reducible exact absurd hc0.symm Bool.false_ne_true | (simp only [nrm] at hc0; omega) | (simp at hc0; done))
    all_goals
     try simp only [nrm] at hc0
     refine wp_exit ?_
     refine then_x ?_; clear hK5 K5
     refine then_x ?_
     refine inb_x ?_
     refine then_n (hK3 _ _ ?_); clear hK3 K3
     refine wp_seq_k ?_; intro K8 hK8
     refine wlit ?_
     refine wl_v (x_move (tmS rfl rfl)) ?_
     refine wl_v (x_assign (tmS rfl rfl)) ?_
     refine wl_nil ?_
     refine then_n (hK8 _ _ ?_); clear hK8 K8
     refine wp_ret ?_
     refine ret1 rfl (.tmp rfl (show _ = Value.slice _ _ _ from rfl)) ?_
     obtain rfl : i = nl := by omega
     rw [List.take_of_length_le (by omega)] at hS
     exact ⟨_, _, rfl, hS.new 0 rfl rfl, hS.kp⟩
theorem x_convZ {P : Program} {a : Act} {w : World} {d : Option Tmp} {x : Operand} {ty : TypeId} {pos : String} {aft : Array Edge} {g : Option (Nat × Bool)} {k' : IntKind} {z : Int} {src dst : TypeId} {ds : TypeDesc} (hs : P.underlying src = some ds) (hd : P.underlying dst = some (.int .u64)) (hx : a.eval x = .int k' z) : (execOp a.eval ⟨d, .convert src dst x, ty, pos, aft, g⟩).run P w = .ok (.value (.int .u64 (((z % 18446744073709551616).toNat : Nat) : Int))) w := by
  have h := x_conv (w := w) (d := d) (ty := ty) (pos := pos) (aft := aft) (g := g) hs hd hx
  rw [wrap_u (k := .u64) rfl] at h
  rw [h, show (2 ^ IntKind.bits .u64 : Int) = 18446744073709551616 by decide, Int.toNat_of_nonneg (Int.emod_nonneg _ (by decide))]
def mlt (p : Mb) : Mb := ((((p.1 % 18446744073709551616).toNat % 64 : Nat) : Int), p.2.tmod 8)
theorem mlt_ok (p : Mb) : Mok (mlt p) := by
  have h1 := Int.tmod_lt_of_pos p.2 (show (0 : Int) < 8 by decide)
  have h2 := Int.lt_tmod_of_pos p.2 (show (0 : Int) < 8 by decide)
  have h3 := Nat.mod_lt (p.1 % 18446744073709551616).toNat (show 64 > 0 by decide)
  refine ⟨Int.natCast_nonneg _, ?_, ?_, ?_⟩
  · show (((p.1 % 18446744073709551616).toNat % 64 : Nat) : Int) < 64
    omega
  · show -7 ≤ p.2.tmod 8
    omega
  · show p.2.tmod 8 ≤ 7
    omega
theorem ex_succ {P : Nat → Prop} {q : Nat} : (∃ j, j < q + 1 ∧ P j) ↔ (∃ j, j < q ∧ P j) ∨ P q := by
  constructor
  · rintro ⟨j, h1, h2⟩
    by_cases h : j = q
    · subst h; exact .inr h2
    · exact .inl ⟨j, by omega, h2⟩
  · rintro (⟨j, h1, h2⟩ | h)
    · exact ⟨j, by omega, h2⟩
    · exact ⟨q, by omega, h⟩
theorem nodup_more {O : List Mb} {m : Mb} (h : (O.map (·.1)).Nodup) (hn : ¬ ∃ j, j < O.length ∧ (O.getD j default).1 = m.1) : ((O ++ [m]).map (·.1)).Nodup := by
  rw [List.map_append, List.map_singleton, List.nodup_append]
  refine ⟨h, by simp, fun a ha b hb hab => ?_⟩
  obtain ⟨p, hp, rfl⟩ := List.mem_map.1 ha
  rw [List.mem_singleton.1 hb] at hab
  obtain ⟨j, hj, rfl⟩ := List.getElem_of_mem hp
  exact hn ⟨j, hj, by rw [List.getD_eq_getElem?_getD, List.getElem?_eq_getElem hj]; exact hab⟩
set_option maxRecDepth 100000 in
set_option maxHeartbeats 4000000 in
theorem light_c (L : Option Addr) (nl cl : Nat) (l : List Mb) (w0 : World) (hvl : View w0 w0.heap.size L (flat mv l)) (hll : l.length = nl) (hnl : nl ≤ 9223372036854775807) :
    Calls Try.prog 6 #[.slice L nl cl] w0 fun e w' => ∃ G ng cg O, ng = O.length ∧ ng ≤ 12 ∧ (∀ p ∈ O, Mok p) ∧ (O.map (·.1)).Nodup ∧ e = .returned (.slice G ng cg) ∧ New w0 w' (.row (.slice G ng cg) 37 2 ng (flat mv O)) ∧ Kp [] w0 w' := by
  have hS := (St.sv w0).vcons rfl hvl
  refine ent (n := 57) Try.func6 rfl rfl ?_
  refine wp_seq_k ?_; intro K1 hK1
  refine wlit ?_
  refine wl_v (x_assign ev_c) ?_
  refine wl_nil ?_
  refine then_n (hK1 _ _ ?_); clear hK1 K1
  refine wp_seq_k ?_; intro K2 hK2
  refine wlit ?_
  refine wl_v (x_assign ev_c) ?_
  refine wl_nil ?_
  refine then_n (hK2 _ _ ?_); clear hK2 K2
  refine wp_seq_k ?_; intro K3 hK3
  refine wp_seq_k ?_; intro K4 hK4
  refine wlit ?_
  refine wl_v (x_assign (ev_cN 0)) ?_
  refine wl_nil ?_
  refine then_n (hK4 _ _ ?_); clear hK4 K4
  refine wp_block ?_
  have hS := hS.nilrow 37 2 --ents row,vl
  refine lp [3, 4, 5, 6, 7, 8, 9, 10, 11, 12, 13, 14, 15, 16, 17, 18, 19, 20, 21, 22, 23, 24, 25, 26, 27, 28, 29, 30, 31, 32, 33, 34, 35, 36, 37, 38, 39, 40, 41, 42, 43, 44, 45, 46, 47, 48, 49, 50, 51, 52, 53, 54, 55] (fun mz g w => ∃ (i : Nat), ∃ (G : Option Addr), ∃ (ng cg : Nat), ∃ (O : List Mb), mz = nl - i ∧ g 4 = .int .i64 (i : Int) ∧ g 3 = .slice G ng cg ∧ St [] w0 [.row (.slice G ng cg) 37 2 ng (flat mv O), .vw L (flat mv l)] w ∧ (i ≤ nl) ∧ (i ≤ 12) ∧ (ng = O.length) ∧ (ng ≤ i) ∧ (∀ p ∈ O, Mok p) ∧ ((O.map (·.1)).Nodup)) ?_ ?_
  · exact ⟨_, 0, none, 0, 0, [], rfl, (by first | rfl | go_num | exact congrArg (Value.int _) (by first | omega | (simp; done) | (simp; omega))), (by first | rfl | go_num | exact congrArg (Value.int _) (by first | omega | (simp; done) | (simp; omega))), hS, (by omega), (by omega), (by first | exact hng | (rw [List.length_append, ← hng]; rfl) | rfl), (by omega), (by first | exact hO | exact hO2 | (intro p hp; cases hp)), (by first | exact hD | exact hD2 | exact List.nodup_nil)⟩
  · clear hS; intro mz g w hI
    obtain ⟨i, G, ng, cg, O, rfl, hs4, hs3, hS, hi, hi12, hng, hni, hO, hD⟩ := hI
    refine fr_know (d := 4) hs4 ?_; clear hs4
    refine fr_know (d := 3) (upd_ne rfl hs3) ?_; clear hs3
    refine wp_seq_k ?_; intro K5 hK5
    refine wp_seq_k ?_; intro K6 hK6
    refine wlit ?_
    refine wl_v (x_move (tmI rfl rfl)) ?_
    refine wl_v (x_move (tmS rfl rfl)) ?_
    refine wl_v (x_len Try.underlying23 (tmS rfl rfl)) ?_
    refine wl_v (x_lss (tmI rfl rfl) (tmI rfl rfl)) ?_
    refine wl_v (x_move (tmB rfl rfl)) ?_
    refine gs_wl (tm (t := 12) rfl) (fun hg3_4 => ?_) (fun hg3_4 => ?_)
    · have hg3_4' := hg3_4; (try simp only [nrm] at hg3_4'); try (exfalso; first | with_reducible exact absurd hg3_4 Bool.false_ne_true | with_reducible exact absurd hg3_4.symm Bool.false_ne_true | omega | (simp at hg3_4; done))
      all_goals
       refine wl_gv (want_y rfl rfl rfl rfl (by rw [hg3_4]; rfl)) (x_move (tmI rfl rfl)) ?_
       refine wl_gv (want_y rfl rfl rfl rfl (by rw [hg3_4]; rfl)) (x_lss (tmI rfl rfl) (ev_cN 12)) ?_
       refine wl_v (x_pickT (tmB rfl rfl) hg3_4 (tmB rfl rfl)) ?_
       refine wl_nil ?_
       refine then_n (hK6 _ _ ?_); clear hK6 K6
       refine cnd (tm rfl) (fun hc0 => ?_) (fun hc0 => ?_)
       · try (exfalso; first | with_reducible exact absurd hc0 Bool.false_ne_true | with_reducible exact absurd hc0.symm Bool.false_ne_true | (simp only [nrm] at hc0; omega) | (simp at hc0; done))
         all_goals
          try simp only [nrm] at hc0
          obtain ⟨b4, o4, rfl⟩ := view_some (viewV hS.ok 1 rfl) (by rw [flat_length mv_len]; omega)
          obtain ⟨m, hm⟩ : ∃ m, m = mlt (l.getD i default) := ⟨_, rfl⟩
          have hmo : Mok m := by rw [hm]; exact mlt_ok _
          refine wp_skip ?_
          refine then_n (hK5 _ _ ?_); clear hK5 K5
          refine wp_seq_k ?_; intro K7 hK7
          refine wp_block ?_
          refine wp_seq_k ?_; intro K8 hK8
          refine rg_startk 0 hS mixed_ ?_
          clear hS; intro w hS
          refine rg_take 0 rfl rfl (by kernel_rfl) (by kernel_rfl) (by kernel_rfl) (want_0) (fun w hok => x_move (tmS rfl rfl)) ?_
          refine rg_take 1 rfl rfl (by kernel_rfl) (by kernel_rfl) (by kernel_rfl) (want_0) (fun w hok => x_move (tmI rfl rfl)) ?_
          refine rg_take 2 rfl rfl (by kernel_rfl) (by kernel_rfl) (by kernel_rfl) (want_0) (fun w hok => x_ixs Try.underlying23 ts_37 (tmS rfl rfl) (tmI rfl rfl) (by omega)) ?_
          refine rg_take 3 rfl rfl (by kernel_rfl) (by kernel_rfl) (by kernel_rfl) (want_0) (fun w hok => x_fa 0 Try.underlying37 rfl rfl ts_3 (tmP rfl rfl)) ?_
          first
           | refine rg_take 4 rfl rfl (by kernel_rfl) (by kernel_rfl) (by kernel_rfl) (want_0) (fun w hok => x_load Try.underlying3 rfl (tmP rfl rfl) (cellR hok 0 rfl rfl)) ?_
           | refine rg_take 4 rfl rfl (by kernel_rfl) (by kernel_rfl) (by kernel_rfl) (want_0) (fun w hok => x_load Try.underlying3 rfl (tmP rfl rfl) (cellR hok 0 rfl (getm (by omega)))) ?_
           | refine rg_take 4 rfl rfl (by kernel_rfl) (by kernel_rfl) (by kernel_rfl) (want_0) (fun w hok => x_load Try.underlying3 rfl (tmP rfl rfl) (cellRs hok 0 rfl (fun _ => rfl) rfl (by omega) rfl)) ?_
           | refine rg_take 4 rfl rfl (by kernel_rfl) (by kernel_rfl) (by kernel_rfl) (want_0) (fun w hok => x_load Try.underlying3 rfl (tmP rfl rfl) (cellV hok 1 rfl rfl)) ?_
           | refine rg_take 4 rfl rfl (by kernel_rfl) (by kernel_rfl) (by kernel_rfl) (want_0) (fun w hok => x_load Try.underlying3 rfl (tmP rfl rfl) (cellV hok 1 rfl (getm (by omega)))) ?_
           | refine rg_take 4 rfl rfl (by kernel_rfl) (by kernel_rfl) (by kernel_rfl) (want_0) (fun w hok => x_load Try.underlying3 rfl (tmP rfl rfl) (cellVs hok 1 rfl (fun _ => rfl) rfl (by omega) rfl)) ?_
          refine rg_take 5 rfl rfl (by kernel_rfl) (by kernel_rfl) (by kernel_rfl) (want_0) (fun w hok => x_convZ Try.underlying3 Try.underlying42 (tmI rfl rfl)) ?_
          first
           | refine rg_take 6 rfl rfl (by kernel_rfl) (by kernel_rfl) (by kernel_rfl) (want_0) (fun w hok => x_remN (tmI rfl rfl) (ev_cN 64) (by omega)) ?_
           | refine rg_take 6 rfl rfl (by kernel_rfl) (by kernel_rfl) (by kernel_rfl) (want_0) (fun w hok => x_rem (tmI rfl rfl) (ev_cN 64) (by omega)) ?_
          first
           | refine rg_take 7 rfl rfl (by kernel_rfl) (by kernel_rfl) (by kernel_rfl) (want_0) (fun w hok => x_convN Try.underlying42 Try.underlying3 (tmI rfl rfl) (fit_i64 (by omega))) ?_
           | refine rg_take 7 rfl rfl (by kernel_rfl) (by kernel_rfl) (by kernel_rfl) (want_0) (fun w hok => x_conv Try.underlying42 Try.underlying3 (tmI rfl rfl)) ?_
          refine rg_take 8 rfl rfl (by kernel_rfl) (by kernel_rfl) (by kernel_rfl) (want_0) (fun w hok => x_move (tmS rfl rfl)) ?_
          refine rg_take 9 rfl rfl (by kernel_rfl) (by kernel_rfl) (by kernel_rfl) (want_0) (fun w hok => x_move (tmI rfl rfl)) ?_
          refine rg_take 10 rfl rfl (by kernel_rfl) (by kernel_rfl) (by kernel_rfl) (want_0) (fun w hok => x_ixs Try.underlying23 ts_37 (tmS rfl rfl) (tmI rfl rfl) (by omega)) ?_
          refine rg_take 11 rfl rfl (by kernel_rfl) (by kernel_rfl) (by kernel_rfl) (want_0) (fun w hok => x_fa 1 Try.underlying37 rfl rfl ts_3 (tmP rfl rfl)) ?_
          first
           | refine rg_take 12 rfl rfl (by kernel_rfl) (by kernel_rfl) (by kernel_rfl) (want_0) (fun w hok => x_load Try.underlying3 rfl (tmP rfl rfl) (cellR hok 0 rfl rfl)) ?_
           | refine rg_take 12 rfl rfl (by kernel_rfl) (by kernel_rfl) (by kernel_rfl) (want_0) (fun w hok => x_load Try.underlying3 rfl (tmP rfl rfl) (cellR hok 0 rfl (getm (by omega)))) ?_
           | refine rg_take 12 rfl rfl (by kernel_rfl) (by kernel_rfl) (by kernel_rfl) (want_0) (fun w hok => x_load Try.underlying3 rfl (tmP rfl rfl) (cellRs hok 0 rfl (fun _ => rfl) rfl (by omega) rfl)) ?_
           | refine rg_take 12 rfl rfl (by kernel_rfl) (by kernel_rfl) (by kernel_rfl) (want_0) (fun w hok => x_load Try.underlying3 rfl (tmP rfl rfl) (cellV hok 1 rfl rfl)) ?_
           | refine rg_take 12 rfl rfl (by kernel_rfl) (by kernel_rfl) (by kernel_rfl) (want_0) (fun w hok => x_load Try.underlying3 rfl (tmP rfl rfl) (cellV hok 1 rfl (getm (by omega)))) ?_
           | refine rg_take 12 rfl rfl (by kernel_rfl) (by kernel_rfl) (by kernel_rfl) (want_0) (fun w hok => x_load Try.underlying3 rfl (tmP rfl rfl) (cellVs hok 1 rfl (fun _ => rfl) rfl (by omega) rfl)) ?_
          refine rg_take 13 rfl rfl (by kernel_rfl) (by kernel_rfl) (by kernel_rfl) (want_0) (fun w hok => x_rem (tmI rfl rfl) (ev_cN 8) (by decide)) ?_
          refine rg_take 14 rfl rfl (by kernel_rfl) (by kernel_rfl) (by kernel_rfl) (want_0) (fun w hok => x_build (bc_take (tmI rfl rfl) <| bc_take (tmI rfl rfl) <| bc_nil) (by kernel_rfl)) ?_
          refine rg_step 15 rfl (by kernel_rfl) (want_0) (oks_drop hS 0 rfl) ?_; intro K hK
          refine ow_alloc hS tz_37 rfl ?_
          clear hS; intro g5_15 w hg5_15 hS
          refine hK _ _ ?_; clear hK K
          refine rg_step 16 rfl (by kernel_rfl) (want_0) (oks_drop hS 1 rfl) ?_; intro K hK
          refine ow_storeA hS 0 rfl ts_37 (tmP rfl rfl) (tmA rfl rfl) rfl rfl rfl ?_
          clear hS; intro w hS
          refine hK _ _ ?_; clear hK K
          refine rg_done (oks_drop hS 1 rfl) (by kernel_rfl) ?_
          refine then_n (hK8 _ _ ?_); clear hK8 K8
          refine wp_seq_k ?_; intro K9 hK9
          replace hS : St [] w0 [.blk g5_15 37 (mv m), .row (.slice G ng cg) 37 2 ng (flat mv O), .vw (some ⟨b4, o4, none⟩) (flat mv l)] w := by rw [hm]; exact hS
          refine wlit ?_
          refine wl_v (x_assign ev_c) ?_
          refine wl_nil ?_
          refine then_n (hK9 _ _ ?_); clear hK9 K9
          refine wp_seq_k ?_; intro K10 hK10
          refine wp_seq_k ?_; intro K11 hK11
          refine wlit ?_
          refine wl_v (x_assign (ev_cN 0)) ?_
          refine wl_nil ?_
          refine then_n (hK11 _ _ ?_); clear hK11 K11
          refine wp_block ?_
          refine lp [6, 7, 33, 34, 35, 36, 37, 38, 39, 40, 41, 42, 43, 44, 45, 46, 47, 48, 49] (fun mz g w => ∃ (q : Nat), ∃ (bm : Bool), mz = ng - q ∧ g 7 = .int .i64 (q : Int) ∧ g 6 = .bool bm ∧ St [] w0 [.blk g5_15 37 (mv m), .row (.slice G ng cg) 37 2 ng (flat mv O), .vw (some ⟨b4, o4, none⟩) (flat mv l)] w ∧ (q ≤ ng) ∧ ((bm = true ↔ ∃ j, j < q ∧ (O.getD j default).1 = m.1))) ?_ ?_
          · exact ⟨_, 0, false, rfl, (by first | rfl | go_num | exact congrArg (Value.int _) (by first | omega | (simp; done) | (simp; omega))), (by first | rfl | go_num | exact congrArg (Value.int _) (by first | omega | (simp; done) | (simp; omega))), hS, (by omega), (by first | exact hbT | exact hbF | simp)⟩
          · clear hS; intro mz g w hI
            obtain ⟨q, bm, rfl, hs7, hs6, hS, hq, hbm⟩ := hI
            refine fr_know (d := 7) hs7 ?_; clear hs7
            refine fr_know (d := 6) (upd_ne rfl hs6) ?_; clear hs6
            refine wp_seq_k ?_; intro K12 hK12
            refine wp_seq_k ?_; intro K13 hK13
            refine wlit ?_
            refine wl_v (x_move (tmI rfl rfl)) ?_
            refine wl_v (x_move (tmS rfl rfl)) ?_
            refine wl_v (x_len Try.underlying23 (tmS rfl rfl)) ?_
            refine wl_v (x_lss (tmI rfl rfl) (tmI rfl rfl)) ?_
            refine wl_nil ?_
            refine then_n (hK13 _ _ ?_); clear hK13 K13
            refine cnd (tm rfl) (fun hc1 => ?_) (fun hc1 => ?_)
            · try (exfalso; first | with_reducible exact absurd hc1 Bool.false_ne_true | with_reducible exact absurd hc1.symm Bool.false_ne_true | (simp only [nrm] at hc1; omega) | (simp at hc1; done))
              all_goals
               try simp only [nrm] at hc1
               obtain ⟨ga, rfl⟩ := row_some (hS.rowOk 1 rfl) (by omega)
               refine wp_skip ?_
               refine then_n (hK12 _ _ ?_); clear hK12 K12
               refine wp_seq_k ?_; intro K14 hK14
               refine wp_block ?_
               refine rg_startk 0 hS mixed_ ?_
               clear hS; intro w hS
               refine rg_take 0 rfl rfl (by kernel_rfl) (by kernel_rfl) (by kernel_rfl) (want_0) (fun w hok => x_move (tmB rfl rfl)) ?_
               refine rg_take 1 rfl rfl (by kernel_rfl) (by kernel_rfl) (by kernel_rfl) (want_0) (fun w hok => x_move (tmB rfl rfl)) ?_
               refine gs_rg (tm (t := 40) rfl) (fun hg10_1 => ?_) (fun hg10_1 => ?_)
               · have hg10_1' := hg10_1; (try simp only [nrm] at hg10_1'); try (exfalso; first | with_reducible exact absurd hg10_1 Bool.false_ne_true | with_reducible exact absurd hg10_1.symm Bool.false_ne_true | omega | (simp at hg10_1; done))
                 all_goals
                  have hbT : (true = true ↔ ∃ j, j < q + 1 ∧ (O.getD j default).1 = m.1) := by
                    rw [ex_succ]
                    exact ⟨fun _ => .inl (hbm.1 hg10_1), fun _ => rfl⟩
                  refine rg_skip 2 rfl rfl (by kernel_rfl) (by kernel_rfl) (by kernel_rfl) (want_n rfl rfl rfl rfl (by rw [hg10_1]; rfl)) ?_
                  refine rg_skip 3 rfl rfl (by kernel_rfl) (by kernel_rfl) (by kernel_rfl) (want_n rfl rfl rfl rfl (by rw [hg10_1]; rfl)) ?_
                  refine rg_skip 4 rfl rfl (by kernel_rfl) (by kernel_rfl) (by kernel_rfl) (want_n rfl rfl rfl rfl (by rw [hg10_1]; rfl)) ?_
                  refine rg_skip 5 rfl rfl (by kernel_rfl) (by kernel_rfl) (by kernel_rfl) (want_n rfl rfl rfl rfl (by rw [hg10_1]; rfl)) ?_
                  refine rg_skip 6 rfl rfl (by kernel_rfl) (by kernel_rfl) (by kernel_rfl) (want_n rfl rfl rfl rfl (by rw [hg10_1]; rfl)) ?_
                  refine rg_skip 7 rfl rfl (by kernel_rfl) (by kernel_rfl) (by kernel_rfl) (want_n rfl rfl rfl rfl (by rw [hg10_1]; rfl)) ?_
                  refine rg_skip 8 rfl rfl (by kernel_rfl) (by kernel_rfl) (by kernel_rfl) (want_n rfl rfl rfl rfl (by rw [hg10_1]; rfl)) ?_
                  refine rg_skip 9 rfl rfl (by kernel_rfl) (by kernel_rfl) (by kernel_rfl) (want_n rfl rfl rfl rfl (by rw [hg10_1]; rfl)) ?_
                  refine rg_take 10 rfl rfl (by kernel_rfl) (by kernel_rfl) (by kernel_rfl) (want_0) (fun w hok => x_pickT (tmB rfl rfl) hg10_1 ev_c) ?_
                  refine rg_take 11 rfl rfl (by kernel_rfl) (by kernel_rfl) (by kernel_rfl) (want_0) (fun w hok => x_assign (tmB rfl rfl)) ?_
                  refine rg_done (oks_drop hS 0 rfl) (by kernel_rfl) ?_
                  refine inb_n ?_
                  refine then_n (hK14 _ _ ?_); clear hK14 K14
                  refine wlit ?_
                  refine wl_v (x_move (tmI rfl rfl)) ?_
                  first
                   | refine wl_v (x_addN (tmI rfl rfl) (ev_cN 1) (fit_i64 (by omega))) ?_
                   | refine wl_v (x_addI (tmI rfl rfl) (ev_cN 1) (IntWalk.i64_in _ (by omega))) ?_
                   | refine wl_v (x_add (tmI rfl rfl) (ev_cN 1)) ?_
                  refine wl_v (x_assign (tmI rfl rfl)) ?_
                  refine wl_nil ?_
                  exact then_n ⟨_, _, rfl, (by show _ < _; omega), (by repeat (first | exact agree_self | exact agree_refl | refine agree_upd rfl ?_ | refine agree_mix rfl ?_)), q + 1, _, rfl, (by first | rfl | go_num | exact congrArg (Value.int _) (by first | omega | (simp; done) | (simp; omega))), (by first | rfl | go_num | exact congrArg (Value.int _) (by first | omega | (simp; done) | (simp; omega))), hS, (by omega), (by first | exact hbT | exact hbF | simp)⟩
               have hg10_1' := hg10_1; (try simp only [nrm] at hg10_1'); try (exfalso; first | with_reducible exact absurd hg10_1 Bool.false_ne_true | with_reducible exact absurd hg10_1.symm Bool.false_ne_true | omega | (simp at hg10_1; done))
               all_goals
                have hbF : (decide ((O.getD q default).1 = m.1) = true ↔ ∃ j, j < q + 1 ∧ (O.getD j default).1 = m.1) := by
                  rw [ex_succ, decide_eq_true_eq]
                  exact ⟨fun h => .inr h, fun h => h.elim (fun h => by rw [hbm.2 h] at hg10_1; cases hg10_1) id⟩
                refine rg_take 2 rfl rfl (by kernel_rfl) (by kernel_rfl) (by kernel_rfl) (want_y rfl rfl rfl rfl (by rw [hg10_1]; rfl)) (fun w hok => x_move (tmS rfl rfl)) ?_
                refine rg_take 3 rfl rfl (by kernel_rfl) (by kernel_rfl) (by kernel_rfl) (want_y rfl rfl rfl rfl (by rw [hg10_1]; rfl)) (fun w hok => x_move (tmI rfl rfl)) ?_
                refine rg_take 4 rfl rfl (by kernel_rfl) (by kernel_rfl) (by kernel_rfl) (want_y rfl rfl rfl rfl (by rw [hg10_1]; rfl)) (fun w hok => x_ixs Try.underlying23 ts_37 (tmS rfl rfl) (tmI rfl rfl) (by omega)) ?_
                refine rg_take 5 rfl rfl (by kernel_rfl) (by kernel_rfl) (by kernel_rfl) (want_y rfl rfl rfl rfl (by rw [hg10_1]; rfl)) (fun w hok => x_fa 0 Try.underlying37 rfl rfl ts_3 (tmP rfl rfl)) ?_
                first
                 | refine rg_take 6 rfl rfl (by kernel_rfl) (by kernel_rfl) (by kernel_rfl) (want_y rfl rfl rfl rfl (by rw [hg10_1]; rfl)) (fun w hok => x_load Try.underlying3 rfl (tmP rfl rfl) (cellR hok 1 rfl rfl)) ?_
                 | refine rg_take 6 rfl rfl (by kernel_rfl) (by kernel_rfl) (by kernel_rfl) (want_y rfl rfl rfl rfl (by rw [hg10_1]; rfl)) (fun w hok => x_load Try.underlying3 rfl (tmP rfl rfl) (cellR hok 1 rfl (getm (by omega)))) ?_
                 | refine rg_take 6 rfl rfl (by kernel_rfl) (by kernel_rfl) (by kernel_rfl) (want_y rfl rfl rfl rfl (by rw [hg10_1]; rfl)) (fun w hok => x_load Try.underlying3 rfl (tmP rfl rfl) (cellRs hok 1 rfl (fun _ => rfl) rfl (by omega) rfl)) ?_
                 | refine rg_take 6 rfl rfl (by kernel_rfl) (by kernel_rfl) (by kernel_rfl) (want_y rfl rfl rfl rfl (by rw [hg10_1]; rfl)) (fun w hok => x_load Try.underlying3 rfl (tmP rfl rfl) (cellV hok 2 rfl rfl)) ?_
                 | refine rg_take 6 rfl rfl (by kernel_rfl) (by kernel_rfl) (by kernel_rfl) (want_y rfl rfl rfl rfl (by rw [hg10_1]; rfl)) (fun w hok => x_load Try.underlying3 rfl (tmP rfl rfl) (cellV hok 2 rfl (getm (by omega)))) ?_
                 | refine rg_take 6 rfl rfl (by kernel_rfl) (by kernel_rfl) (by kernel_rfl) (want_y rfl rfl rfl rfl (by rw [hg10_1]; rfl)) (fun w hok => x_load Try.underlying3 rfl (tmP rfl rfl) (cellVs hok 2 rfl (fun _ => rfl) rfl (by omega) rfl)) ?_
                refine rg_take 7 rfl rfl (by kernel_rfl) (by kernel_rfl) (by kernel_rfl) (want_y rfl rfl rfl rfl (by rw [hg10_1]; rfl)) (fun w hok => x_fa 0 Try.underlying37 rfl rfl ts_3 (tmP rfl rfl)) ?_
                first
                 | refine rg_take 8 rfl rfl (by kernel_rfl) (by kernel_rfl) (by kernel_rfl) (want_y rfl rfl rfl rfl (by rw [hg10_1]; rfl)) (fun w hok => x_load Try.underlying3 rfl (tmP rfl rfl) (cellB hok 0 rfl rfl)) ?_
                 | refine rg_take 8 rfl rfl (by kernel_rfl) (by kernel_rfl) (by kernel_rfl) (want_y rfl rfl rfl rfl (by rw [hg10_1]; rfl)) (fun w hok => x_load Try.underlying3 rfl (tmP rfl rfl) (cellB hok 0 rfl (getm (by omega)))) ?_
                refine rg_take 9 rfl rfl (by kernel_rfl) (by kernel_rfl) (by kernel_rfl) (want_y rfl rfl rfl rfl (by rw [hg10_1]; rfl)) (fun w hok => x_eql (tmI rfl rfl) (tmI rfl rfl)) ?_
                refine rg_take 10 rfl rfl (by kernel_rfl) (by kernel_rfl) (by kernel_rfl) (want_0) (fun w hok => x_pickF (tmB rfl rfl) hg10_1 (tmB rfl rfl)) ?_
                refine rg_take 11 rfl rfl (by kernel_rfl) (by kernel_rfl) (by kernel_rfl) (want_0) (fun w hok => x_assign (tmB rfl rfl)) ?_
                refine rg_done (oks_drop hS 0 rfl) (by kernel_rfl) ?_
                refine inb_n ?_
                refine then_n (hK14 _ _ ?_); clear hK14 K14
                refine wlit ?_
                refine wl_v (x_move (tmI rfl rfl)) ?_
                first
                 | refine wl_v (x_addN (tmI rfl rfl) (ev_cN 1) (fit_i64 (by omega))) ?_
                 | refine wl_v (x_addI (tmI rfl rfl) (ev_cN 1) (IntWalk.i64_in _ (by omega))) ?_
                 | refine wl_v (x_add (tmI rfl rfl) (ev_cN 1)) ?_
                refine wl_v (x_assign (tmI rfl rfl)) ?_
                refine wl_nil ?_
                exact then_n ⟨_, _, rfl, (by show _ < _; omega), (by repeat (first | exact agree_self | exact agree_refl | refine agree_upd rfl ?_ | refine agree_mix rfl ?_)), q + 1, _, rfl, (by first | rfl | go_num | exact congrArg (Value.int _) (by first | omega | (simp; done) | (simp; omega))), (by first | rfl | go_num | exact congrArg (Value.int _) (by first | omega | (simp; done) | (simp; omega))), hS, (by omega), (by first | exact hbT | exact hbF | simp)⟩
            try (exfalso; first | with_reducible exact absurd hc1 Bool.false_ne_true | with_reducible exact absurd hc1.symm Bool.false_ne_true | (simp only [nrm] at hc1; omega) | (simp at hc1; done))
            all_goals
             try simp only [nrm] at hc1
             refine wp_exit ?_
             refine then_x ?_; clear hK12 K12
             refine then_x ?_
             refine inb_x ?_
             refine then_n (hK10 _ _ ?_); clear hK10 K10
             refine wp_seq_k ?_; intro K15 hK15
             obtain rfl : q = ng := by omega
             refine wlit ?_
             refine wl_v (x_move (tmB rfl rfl)) ?_
             refine wl_v (x_not (tmB rfl rfl)) ?_
             refine wl_nil ?_
             refine then_n (hK15 _ _ ?_); clear hK15 K15
             refine cnd (tm rfl) (fun hc2 => ?_) (fun hc2 => ?_)
             · try (exfalso; first | with_reducible exact absurd hc2 Bool.false_ne_true | with_reducible exact absurd hc2.symm Bool.false_ne_true | (simp only [nrm] at hc2; omega) | (simp at hc2; done))
               all_goals
                try simp only [nrm] at hc2
                have hnx : ¬ ∃ j, j < O.length ∧ (O.getD j default).1 = m.1 := fun h => by
                  rw [← hng] at h
                  have := hbm.2 h
                  rw [this] at hc2
                  first | cases hc2 | (simp at hc2; done)
                have hD2 := nodup_more hD hnx
                have hO2 : ∀ p ∈ O ++ [m], Mok p := fun p hp => by
                  rcases List.mem_append.1 hp with h | h
                  · exact hO p h
                  · rw [List.mem_singleton.1 h]; exact hmo
                refine wlit ?_
                refine wl_v (x_move (tmS rfl rfl)) ?_
                refine wl_v (x_loadA (cs := [_, _]) Try.underlying37 rfl ts_37 (tmP rfl rfl) (rangeB hS.ok 0 rfl rfl)) ?_
                refine wl_e rfl ?_; intro K hK
                refine ow_build hS Try.underlying23 tz_37 (bc_takeL (tmA rfl rfl) <| bc_nil) rfl rfl (by kernel_rfl) ?_
                clear hS; intro g12_2 w hg12_2 hS
                refine hK _ _ ?_; clear hK K
                refine wl_e rfl ?_; intro K hK
                (refine ow_append hS 2 0 rfl rfl Try.underlying23 tz_37 rfl (tmS rfl rfl) (tmS rfl rfl) rfl ⟨by decide, by decide, rfl⟩ (by simp only [maxLen]; omega) (by omega) ?_; clear hS; intro g12_3 cg12_3 w hS)
                refine hK _ _ ?_; clear hK K
                refine wl_v (x_assign (tmS rfl rfl)) ?_
                refine wl_nil ?_
                refine inb_n ?_
                refine then_n (hK7 _ _ ?_); clear hK7 K7
                refine wlit ?_
                refine wl_v (x_move (tmI rfl rfl)) ?_
                first
                 | refine wl_v (x_addN (tmI rfl rfl) (ev_cN 1) (fit_i64 (by omega))) ?_
                 | refine wl_v (x_addI (tmI rfl rfl) (ev_cN 1) (IntWalk.i64_in _ (by omega))) ?_
                 | refine wl_v (x_add (tmI rfl rfl) (ev_cN 1)) ?_
                refine wl_v (x_assign (tmI rfl rfl)) ?_
                refine wl_nil ?_
                first
                 | exact then_n ⟨_, _, rfl, (by show _ < _; omega), (by repeat (first | exact agree_self | exact agree_refl | refine agree_upd rfl ?_ | refine agree_mix rfl ?_)), i + 1, _, _, _, O ++ [m], rfl, (by first | rfl | go_num | exact congrArg (Value.int _) (by first | omega | (simp; done) | (simp; omega))), (by first | rfl | go_num | exact congrArg (Value.int _) (by first | omega | (simp; done) | (simp; omega))), (by rw [flat_snoc]; exact hS.pick [2, 3] rfl rfl), (by omega), (by omega), (by first | exact hng | (rw [List.length_append, ← hng]; rfl) | rfl), (by omega), (by first | exact hO | exact hO2 | (intro p hp; cases hp)), (by first | exact hD | exact hD2 | exact List.nodup_nil)⟩
                 | exact then_n ⟨_, _, rfl, (by show _ < _; omega), (by repeat (first | exact agree_self | exact agree_refl | refine agree_upd rfl ?_ | refine agree_mix rfl ?_)), i + 1, _, _, _, O, rfl, (by first | rfl | go_num | exact congrArg (Value.int _) (by first | omega | (simp; done) | (simp; omega))), (by first | rfl | go_num | exact congrArg (Value.int _) (by first | omega | (simp; done) | (simp; omega))), hS.pick [2, 3] rfl rfl, (by omega), (by omega), (by first | exact hng | (rw [List.length_append, ← hng]; rfl) | rfl), (by omega), (by first | exact hO | exact hO2 | (intro p hp; cases hp)), (by first | exact hD | exact hD2 | exact List.nodup_nil)⟩
             try (exfalso; first | with_reducible exact absurd hc2 Bool.false_ne_true | with_reducible exact absurd hc2.symm Bool.false_ne_true | (simp only [nrm] at hc2; omega) | (simp at hc2; done))
             all_goals
              try simp only [nrm] at hc2
              refine wp_skip ?_
              refine inb_n ?_
              refine then_n (hK7 _ _ ?_); clear hK7 K7
              refine wlit ?_
              refine wl_v (x_move (tmI rfl rfl)) ?_
              first
               | refine wl_v (x_addN (tmI rfl rfl) (ev_cN 1) (fit_i64 (by omega))) ?_
               | refine wl_v (x_addI (tmI rfl rfl) (ev_cN 1) (IntWalk.i64_in _ (by omega))) ?_
               | refine wl_v (x_add (tmI rfl rfl) (ev_cN 1)) ?_
              refine wl_v (x_assign (tmI rfl rfl)) ?_
              refine wl_nil ?_
              first
               | exact then_n ⟨_, _, rfl, (by show _ < _; omega), (by repeat (first | exact agree_self | exact agree_refl | refine agree_upd rfl ?_ | refine agree_mix rfl ?_)), i + 1, _, _, _, O ++ [m], rfl, (by first | rfl | go_num | exact congrArg (Value.int _) (by first | omega | (simp; done) | (simp; omega))), (by first | rfl | go_num | exact congrArg (Value.int _) (by first | omega | (simp; done) | (simp; omega))), (by rw [flat_snoc]; exact hS.pick [1, 2] rfl rfl), (by omega), (by omega), (by first | exact hng | (rw [List.length_append, ← hng]; rfl) | rfl), (by omega), (by first | exact hO | exact hO2 | (intro p hp; cases hp)), (by first | exact hD | exact hD2 | exact List.nodup_nil)⟩
               | exact then_n ⟨_, _, rfl, (by show _ < _; omega), (by repeat (first | exact agree_self | exact agree_refl | refine agree_upd rfl ?_ | refine agree_mix rfl ?_)), i + 1, _, _, _, O, rfl, (by first | rfl | go_num | exact congrArg (Value.int _) (by first | omega | (simp; done) | (simp; omega))), (by first | rfl | go_num | exact congrArg (Value.int _) (by first | omega | (simp; done) | (simp; omega))), hS.pick [1, 2] rfl rfl, (by omega), (by omega), (by first | exact hng | (rw [List.length_append, ← hng]; rfl) | rfl), (by omega), (by first | exact hO | exact hO2 | (intro p hp; cases hp)), (by first | exact hD | exact hD2 | exact List.nodup_nil)⟩
       try (exfalso; first | with_reducible exact absurd hc0 Bool.false_ne_true | with_reducible exact absurd hc0.symm Bool.false_ne_true | (simp only [nrm] at hc0; omega) | (simp at hc0; done))
       all_goals
        try simp only [nrm] at hc0
        refine wp_exit ?_
        refine then_x ?_; clear hK5 K5
        refine then_x ?_
        refine inb_x ?_
        refine then_n (hK3 _ _ ?_); clear hK3 K3
        refine wp_seq_k ?_; intro K16 hK16
        refine wlit ?_
        refine wl_v (x_move (tmS rfl rfl)) ?_
        refine wl_v (x_assign (tmS rfl rfl)) ?_
        refine wl_nil ?_
        refine then_n (hK16 _ _ ?_); clear hK16 K16
        refine wp_ret ?_
        refine ret1 rfl (.tmp rfl (show _ = Value.slice _ _ _ from rfl)) ?_
        exact ⟨_, _, _, O, hng, by omega, hO, hD, rfl, hS.new 0 rfl rfl, hS.kp⟩
    have hg3_4' := hg3_4; (try simp only [nrm] at hg3_4'); try (exfalso; first | with_reducible exact absurd hg3_4 Bool.false_ne_true | with_reducible exact absurd hg3_4.symm Bool.false_ne_true | omega | (simp at hg3_4; done))
    all_goals
     refine wl_s rfl (want_n rfl rfl rfl rfl (by rw [hg3_4]; rfl)) ?_
     refine wl_s rfl (want_n rfl rfl rfl rfl (by rw [hg3_4]; rfl)) ?_
     refine wl_v (x_pickF (tmB rfl rfl) hg3_4 ev_c) ?_
     refine wl_nil ?_
     refine then_n (hK6 _ _ ?_); clear hK6 K6
     refine cnd_f (tmB rfl rfl) rfl ?_
     refine wp_exit ?_
     refine then_x ?_; clear hK5 K5
     refine then_x ?_
     refine inb_x ?_
     refine then_n (hK3 _ _ ?_); clear hK3 K3
     refine wp_seq_k ?_; intro K17 hK17
     refine wlit ?_
     refine wl_v (x_move (tmS rfl rfl)) ?_
     refine wl_v (x_assign (tmS rfl rfl)) ?_
     refine wl_nil ?_
     refine then_n (hK17 _ _ ?_); clear hK17 K17
     refine wp_ret ?_
     refine ret1 rfl (.tmp rfl (show _ = Value.slice _ _ _ from rfl)) ?_
     exact ⟨_, _, _, O, hng, by omega, hO, hD, rfl, hS.new 0 rfl rfl, hS.kp⟩
end Go.Proofs.Ytgfmjgfeiokcdaa
