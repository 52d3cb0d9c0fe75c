
/- codec: operations as data; fits, small, both Right, by contract. Conditions: none but bounds. -/
import Derived.Test.YtoaodcbfehfdoaaRdT
import Derived.Test.YtoaodcbfehfdoaaRws
import Derived.Test.YtoaodcbfehfdoaaAd
import Derived.Test.YtoaodcbfehfdoaaO
namespace Go.Proofs.Ytoaodcbfehfdoaa
open Go.ChangeShapes Go.WideShapes Go.ChangeAt Go.RowKit
/-- An operation but for its members. -/
structure Hp where
  kind : Int
  vip : Int
  be_ : Int
  ve : Int
  a : Ad
  port : Nat
  proto : Nat
  way : Int
def opV (h : Hp) (L : Option Addr) (n c : Nat) : List Value := [.int .i64 h.kind, .int .i64 h.vip, .int .i64 h.be_, .int .i64 h.ve, .bool h.a.six, .int .u64 (h.a.high : Int), .int .u64 (h.a.low : Int), .int .u16 (h.port : Int), .int .u8 (h.proto : Int), .int .i64 h.way, .slice L n c]
abbrev Mm := Int × Int
def mmV (p : Mm) : List Value := [.int .i64 p.1, .int .i64 p.2]
theorem mmV_len (p : Mm) : (mmV p).length = 2 := rfl
def iv (z : Int) : Value := .int .i64 z
def okI (z : Int) : Prop := 0 ≤ z ∧ z ≤ 255
instance (z : Int) : Decidable (okI z) := by unfold okI; exact inferInstance
def okMs (l : List Mm) : Prop := ∀ p ∈ l, okI p.1 ∧ okI p.2
instance (l : List Mm) : Decidable (okMs l) := by unfold okMs; exact inferInstance
def okOp (h : Hp) (l : List Mm) : Prop := okMs l ∧ (okI h.kind ∧ okI h.vip ∧ okI h.be_ ∧ okI h.ve ∧ okI h.way) ∧ adRight h.a ∧ l.length ≤ 64
instance (h : Hp) (l : List Mm) : Decidable (okOp h l) := by unfold okOp; exact inferInstance
def hpLim (h : Hp) : Prop := adLim h.a ∧ h.port ≤ 65535 ∧ h.proto ≤ 255
theorem gmem {α : Type} [Inhabited α] {l : List α} {k : Nat} (h : k < l.length) : l.getD k default ∈ l := by
  rw [List.getD_eq_getElem?_getD, List.getElem?_eq_getElem h]
  exact List.getElem_mem _
theorem gall {α : Type} [Inhabited α] {l : List α} {n : Nat} {p : α → Prop} (hl : l.length = n) (h : ∀ j, j < n → p (l.getD j default)) : ∀ r ∈ l, p r := by
  intro r hr
  obtain ⟨i, hi, rfl⟩ := List.getElem_of_mem hr
  have := h i (by omega)
  rwa [List.getD_eq_getElem?_getD, List.getElem?_eq_getElem hi] at this
theorem gget {zs : List Int} {k : Nat} (h : k < zs.length) : (zs.map iv)[k]? = some (.int .i64 (zs.getD k default)) := by
  rw [List.getElem?_map, List.getD_eq_getElem?_getD, List.getElem?_eq_getElem h]; rfl
set_option maxRecDepth 100000 in
set_option maxHeartbeats 4000000 in
theorem fits_c (L : Option Addr) (n c : Nat) (zs : List Int) (w0 : World) (hv : View w0 w0.heap.size L (zs.map iv)) (hl : zs.length = n) (hn : n ≤ 1000) :
    Calls Try.prog 23 #[.slice L n c] w0 fun e w' => e = .returned (.bool (decide (∀ z ∈ zs, okI z))) ∧ Kp [] w0 w' := by
  have hS := (St.sv w0).vcons rfl hv
  refine ent (n := 18) Try.func23 rfl rfl ?_
  refine wp_seq_k ?_; intro K1 hK1
  refine wlit ?_
  refine wl_v (x_assign ev_c) ?_
  refine wl_nil ?_
  refine then_n (hK1 _ _ ?_); clear hK1 K1
  refine wp_seq_k ?_; intro K2 hK2
  refine wp_seq_k ?_; intro K3 hK3
  refine wlit ?_
  refine wl_v (x_move (tmS rfl rfl)) ?_
  refine wl_v (x_len Try.underlying87 (tmS rfl rfl)) ?_
  refine wl_v (x_move (ev_cN 0)) ?_
  refine wl_nil ?_
  refine then_n (hK3 _ _ ?_); clear hK3 K3
  refine wp_block ?_
  refine lp [2, 4, 7, 8, 9, 10, 11, 12, 13, 14, 15, 16, 17] (fun mz g w => ∃ (k : Nat), mz = n - k ∧ g 7 = .int .i64 (k : Int) ∧ St [] w0 [.vw L (zs.map iv)] w ∧ (k ≤ n) ∧ (∀ j, j < k → okI (zs.getD j default))) ?_ ?_
  · exact ⟨_, 0, rfl, (by first | rfl | go_num | exact congrArg (Value.int _) (by first | omega | (simp; done) | (simp; omega))), hS, (by omega), (by first | exact hok2 | exact (fun j hj => absurd hj (Nat.not_lt_zero j)))⟩
  · clear hS; intro mz g w hI
    obtain ⟨k, rfl, hs7, hS, hk, hok⟩ := hI
    refine fr_know (d := 7) hs7 ?_; clear hs7
    refine wp_seq_k ?_; intro K4 hK4
    refine wlit ?_
    refine wl_v (x_lss (tmI rfl rfl) (tmI rfl rfl)) ?_
    refine wl_nil ?_
    refine then_n (hK4 _ _ ?_); clear hK4 K4
    refine wp_seq_k ?_; intro K5 hK5
    refine cnd (tm rfl) (fun hc0 => ?_) (fun hc0 => ?_)
    · try (exfalso; first | with_reducible exact absurd hc0 Bool.false_ne_true | with_reducible exact absurd hc0.symm Bool.false_ne_true | (simp only [nrm] at hc0; omega) | (simp at hc0; done))
      all_goals
       try simp only [nrm] at hc0
       refine wp_skip ?_
       refine then_n (hK5 _ _ ?_); clear hK5 K5
       refine wp_seq_k ?_; intro K6 hK6
       refine wp_block ?_
       refine wp_seq_k ?_; intro K7 hK7
       obtain ⟨b4, o4, rfl⟩ := view_some (viewV hS.ok 0 rfl) (by rw [List.length_map]; omega)
       refine wlit ?_
       refine wl_v (x_ixs1 Try.underlying87 ts_3 (tmS rfl rfl) (tmI rfl rfl) (by omega)) ?_
       refine wl_v (x_load (v := .int .i64 (zs.getD k default)) Try.underlying3 rfl (tmP rfl rfl) (cellV hS.ok 0 rfl (gget (by omega)))) ?_
       refine wl_v (x_assign (tmI rfl rfl)) ?_
       refine wl_nil ?_
       refine then_n (hK7 _ _ ?_); clear hK7 K7
       refine wp_seq_k ?_; intro K8 hK8
       refine wlit ?_
       refine wl_v (x_move (tmI rfl rfl)) ?_
       refine wl_v (x_lss (tmI rfl rfl) (ev_cN 0)) ?_
       refine wl_v (x_move (tmB rfl rfl)) ?_
       refine gs_wl (tm (t := 13) rfl) (fun hg4_2 => ?_) (fun hg4_2 => ?_)
       · have hg4_2' := hg4_2; (try simp only [nrm] at hg4_2'); try (exfalso; first | with_reducible exact absurd hg4_2 Bool.false_ne_true | with_reducible exact absurd hg4_2.symm Bool.false_ne_true | omega | (simp at hg4_2; done))
         all_goals
          refine wl_s rfl (want_n rfl rfl rfl rfl (by rw [hg4_2]; rfl)) ?_
          refine wl_s rfl (want_n rfl rfl rfl rfl (by rw [hg4_2]; rfl)) ?_
          refine wl_v (x_pickT (tmB rfl rfl) hg4_2 ev_c) ?_
          refine wl_nil ?_
          refine then_n (hK8 _ _ ?_); clear hK8 K8
          refine cnd_t (tmB rfl rfl) rfl ?_
          refine wp_seq_k ?_; intro K9 hK9
          refine wlit ?_
          refine wl_v (x_assign ev_c) ?_
          refine wl_nil ?_
          refine then_n (hK9 _ _ ?_); clear hK9 K9
          refine wp_ret ?_
          refine inb_r ?_
          refine then_r ?_
          refine then_r ?_
          refine inb_r ?_
          refine then_r ?_
          refine ret1 rfl (.tmp rfl (show _ = Value.bool _ from rfl)) ?_
          first
            | exact ⟨ret_bool (decide_eq_true (gall (p := okI) hl fun j hj => hok j (by omega))).symm, hS.kp⟩
            | (have hno : ¬ ∀ z ∈ zs, okI z := fun h => by have := h _ (gmem (l := zs) (k := k) (by omega)); unfold okI at this; omega
               exact ⟨ret_bool (decide_eq_false hno).symm, hS.kp⟩)
       have hg4_2' := hg4_2; (try simp only [nrm] at hg4_2'); try (exfalso; first | with_reducible exact absurd hg4_2 Bool.false_ne_true | with_reducible exact absurd hg4_2.symm Bool.false_ne_true | omega | (simp at hg4_2; done))
       all_goals
        refine wl_gv (want_y rfl rfl rfl rfl (by rw [hg4_2]; rfl)) (x_move (tmI rfl rfl)) ?_
        refine wl_gv (want_y rfl rfl rfl rfl (by rw [hg4_2]; rfl)) (x_gtr (tmI rfl rfl) (ev_cN 255)) ?_
        refine wl_v (x_pickF (tmB rfl rfl) hg4_2 (tmB rfl rfl)) ?_
        refine wl_nil ?_
        refine then_n (hK8 _ _ ?_); clear hK8 K8
        refine cnd (tm rfl) (fun hc1 => ?_) (fun hc1 => ?_)
        · try (exfalso; first | with_reducible exact absurd hc1 Bool.false_ne_true | with_reducible exact absurd hc1.symm Bool.false_ne_true | (simp only [nrm] at hc1; omega) | (simp at hc1; done))
          all_goals
           try simp only [nrm] at hc1
           refine wp_seq_k ?_; intro K10 hK10
           refine wlit ?_
           refine wl_v (x_assign ev_c) ?_
           refine wl_nil ?_
           refine then_n (hK10 _ _ ?_); clear hK10 K10
           refine wp_ret ?_
           refine inb_r ?_
           refine then_r ?_
           refine then_r ?_
           refine inb_r ?_
           refine then_r ?_
           refine ret1 rfl (.tmp rfl (show _ = Value.bool _ from rfl)) ?_
           first
             | exact ⟨ret_bool (decide_eq_true (gall (p := okI) hl fun j hj => hok j (by omega))).symm, hS.kp⟩
             | (have hno : ¬ ∀ z ∈ zs, okI z := fun h => by have := h _ (gmem (l := zs) (k := k) (by omega)); unfold okI at this; omega
                exact ⟨ret_bool (decide_eq_false hno).symm, hS.kp⟩)
        try (exfalso; first | with_reducible exact absurd hc1 Bool.false_ne_true | with_reducible exact absurd hc1.symm Bool.false_ne_true | (simp only [nrm] at hc1; omega) | (simp at hc1; done))
        all_goals
         try simp only [nrm] at hc1
         refine wp_skip ?_
         refine inb_n ?_
         refine then_n (hK6 _ _ ?_); clear hK6 K6
         refine wlit ?_
         first
          | refine wl_v (x_addN (tmI rfl rfl) (ev_cN 1) (fit_i64 (by omega))) ?_
          | refine wl_v (x_addI (tmI rfl rfl) (ev_cN 1) (IntWalk.i64_in _ (by omega))) ?_
          | refine wl_v (x_add (tmI rfl rfl) (ev_cN 1)) ?_
         refine wl_v (x_move (tmI rfl rfl)) ?_
         refine wl_nil ?_
         have hok2 : ∀ j, j < k + 1 → okI (zs.getD j default) := fun j hj => by rcases (by omega : j < k ∨ j = k) with h | rfl; exact hok j h; unfold okI; omega
         exact then_n ⟨_, _, rfl, (by show _ < _; omega), (by repeat (first | exact agree_self | exact agree_refl | refine agree_upd rfl ?_ | refine agree_mix rfl ?_)), k + 1, rfl, (by first | rfl | go_num | exact congrArg (Value.int _) (by first | omega | (simp; done) | (simp; omega))), hS, (by omega), (by first | exact hok2 | exact (fun j hj => absurd hj (Nat.not_lt_zero j)))⟩
    try (exfalso; first | with_reducible exact absurd hc0 Bool.false_ne_true | with_reducible exact absurd hc0.symm Bool.false_ne_true | (simp only [nrm] at hc0; omega) | (simp at hc0; done))
    all_goals
     try simp only [nrm] at hc0
     refine wp_exit ?_
     refine then_x ?_; clear hK5 K5
     refine then_x ?_
     refine inb_x ?_
     refine then_n (hK2 _ _ ?_); clear hK2 K2
     refine wp_seq_k ?_; intro K11 hK11
     refine wlit ?_
     refine wl_v (x_assign ev_c) ?_
     refine wl_nil ?_
     refine then_n (hK11 _ _ ?_); clear hK11 K11
     refine wp_ret ?_
     refine ret1 rfl (.tmp rfl (show _ = Value.bool _ from rfl)) ?_
     first
       | exact ⟨ret_bool (decide_eq_true (gall (p := okI) hl fun j hj => hok j (by omega))).symm, hS.kp⟩
       | (have hno : ¬ ∀ z ∈ zs, okI z := fun h => by have := h _ (gmem (l := zs) (k := k) (by omega)); unfold okI at this; omega
          exact ⟨ret_bool (decide_eq_false hno).symm, hS.kp⟩)
set_option maxRecDepth 100000 in
set_option maxHeartbeats 4000000 in
theorem small_c (z : Int) (w0 : World) : Calls Try.prog 25 #[.int .i64 z] w0 fun e w' => e = .returned (.bool (decide (okI z))) ∧ Kp [] w0 w' := by
  have hS := St.sv w0
  refine ent (n := 9) Try.func25 rfl rfl ?_
  refine wp_seq_k ?_; intro K1 hK1
  refine wlit ?_
  refine wl_v (x_assign ev_c) ?_
  refine wl_nil ?_
  refine then_n (hK1 _ _ ?_); clear hK1 K1
  refine wp_seq_k ?_; intro K2 hK2
  refine wlit ?_
  refine wl_v (x_move (tmI rfl rfl)) ?_
  refine wl_v (x_geq (tmI rfl rfl) (ev_cN 0)) ?_
  refine wl_v (x_move (tmB rfl rfl)) ?_
  refine gs_wl (tm (t := 5) rfl) (fun hg1_2 => ?_) (fun hg1_2 => ?_)
  · have hg1_2' := hg1_2; (try simp only [nrm] at hg1_2'); try (exfalso; first | with_reducible exact absurd hg1_2 Bool.false_ne_true | with_reducible exact absurd hg1_2.symm Bool.false_ne_true | omega | (simp at hg1_2; done))
    all_goals
     refine wl_gv (want_y rfl rfl rfl rfl (by rw [hg1_2]; rfl)) (x_move (tmI rfl rfl)) ?_
     refine wl_gv (want_y rfl rfl rfl rfl (by rw [hg1_2]; rfl)) (x_lss (tmI rfl rfl) (ev_cN 256)) ?_
     refine wl_v (x_pickT (tmB rfl rfl) hg1_2 (tmB rfl rfl)) ?_
     refine wl_v (x_assign (tmB rfl rfl)) ?_
     refine wl_nil ?_
     refine then_n (hK2 _ _ ?_); clear hK2 K2
     refine wp_ret ?_
     refine ret1 rfl (.tmp rfl (show _ = Value.bool _ from rfl)) ?_
     refine ⟨ret_bool ?_, hS.kp⟩
     first
       | exact (decide_eq_false (by unfold okI; omega)).symm
       | (rw [decide_eq_decide]; unfold okI; omega)
  have hg1_2' := hg1_2; (try simp only [nrm] at hg1_2'); try (exfalso; first | with_reducible exact absurd hg1_2 Bool.false_ne_true | with_reducible exact absurd hg1_2.symm Bool.false_ne_true | omega | (simp at hg1_2; done))
  all_goals
   refine wl_s rfl (want_n rfl rfl rfl rfl (by rw [hg1_2]; rfl)) ?_
   refine wl_s rfl (want_n rfl rfl rfl rfl (by rw [hg1_2]; rfl)) ?_
   refine wl_v (x_pickF (tmB rfl rfl) hg1_2 ev_c) ?_
   refine wl_v (x_assign (tmB rfl rfl)) ?_
   refine wl_nil ?_
   refine then_n (hK2 _ _ ?_); clear hK2 K2
   refine wp_ret ?_
   refine ret1 rfl (.tmp rfl (show _ = Value.bool _ from rfl)) ?_
   refine ⟨ret_bool ?_, hS.kp⟩
   first
     | exact (decide_eq_false (by unfold okI; omega)).symm
     | (rw [decide_eq_decide]; unfold okI; omega)
set_option maxRecDepth 100000 in
set_option maxHeartbeats 8000000 in
theorem coright_c (h : Hp) (L : Option Addr) (n c : Nat) (l : List Mm) (w0 : World) (hv : View w0 w0.heap.size L (flat mmV l)) (hl : l.length = n) (hn : n ≤ 1000) (hlim : hpLim h) :
    Calls Try.prog 10 #[.agg (opV h L n c).toArray] w0 fun e w' => e = .returned (.bool (decide (okOp h l))) ∧ Kp [] w0 w' := by
  obtain ⟨hla, hlp, hlq⟩ := hlim
  have hfl := flat_length (enc := mmV) (l := l) mmV_len
  have hS := (St.sv w0).vcons rfl hv
  refine ent (n := 43) Try.func10 rfl rfl ?_
  refine wp_seq_k ?_; intro K1 hK1
  refine wlit ?_
  refine wl_e rfl ?_; intro K hK
  refine ow_box hS (tmA rfl rfl) rfl ?_
  clear hS; intro g0_0 w hg0_0 hS
  refine hK _ _ ?_; clear hK K
  refine wl_v (x_assign ev_c) ?_
  refine wl_nil ?_
  refine then_n (hK1 _ _ ?_); clear hK1 K1
  refine wp_seq_k ?_; intro K2 hK2
  refine wp_seq_k ?_; intro K3 hK3
  refine wlit ?_
  refine wl_v (x_fa 10 Try.underlying35 rfl rfl ts_33 (tmP rfl rfl)) ?_
  first
   | refine wl_v (x_load Try.underlying33 rfl (tmP rfl rfl) (cellB hS.ok 0 rfl rfl)) ?_
   | refine wl_v (x_load Try.underlying33 rfl (tmP rfl rfl) (cellB hS.ok 0 rfl (getm (by omega)))) ?_
  refine wl_v (x_len Try.underlying33 (tmS rfl rfl)) ?_
  refine wl_v (x_move (ev_cN 0)) ?_
  refine wl_nil ?_
  refine then_n (hK3 _ _ ?_); clear hK3 K3
  refine wp_block ?_
  refine lp [2, 4, 8, 9, 10, 11, 12, 13, 14, 15, 16, 17, 18, 19] (fun mz g w => ∃ (k : Nat), mz = n - k ∧ g 8 = .int .i64 (k : Int) ∧ St [] w0 [.blk g0_0 35 (opV h L n c), .vw L (flat mmV l)] w ∧ (k ≤ n) ∧ (∀ j, j < k → okI (l.getD j default).1 ∧ okI (l.getD j default).2)) ?_ ?_
  · exact ⟨_, 0, rfl, (by first | rfl | go_num | exact congrArg (Value.int _) (by first | omega | (simp; done) | (simp; omega))), hS, (by omega), (by first | exact hok2 | exact (fun j hj => absurd hj (Nat.not_lt_zero j)))⟩
  · clear hS; intro mz g w hI
    obtain ⟨k, rfl, hs8, hS, hk, hok⟩ := hI
    refine fr_know (d := 8) hs8 ?_; clear hs8
    refine wp_seq_k ?_; intro K4 hK4
    refine wlit ?_
    refine wl_v (x_lss (tmI rfl rfl) (tmI rfl rfl)) ?_
    refine wl_nil ?_
    refine then_n (hK4 _ _ ?_); clear hK4 K4
    refine wp_seq_k ?_; intro K5 hK5
    refine cnd (tm rfl) (fun hc0 => ?_) (fun hc0 => ?_)
    · try (exfalso; first | with_reducible exact absurd hc0 Bool.false_ne_true | with_reducible exact absurd hc0.symm Bool.false_ne_true | (simp only [nrm] at hc0; omega) | (simp at hc0; done))
      all_goals
       try simp only [nrm] at hc0
       refine wp_skip ?_
       refine then_n (hK5 _ _ ?_); clear hK5 K5
       refine wp_seq_k ?_; intro K6 hK6
       refine wp_block ?_
       refine wp_seq_k ?_; intro K7 hK7
       obtain ⟨b4, o4, rfl⟩ := view_some (viewV hS.ok 1 rfl) (by rw [hfl]; omega)
       refine wlit ?_
       refine wl_v (x_ixs Try.underlying33 ts_64 (tmS rfl rfl) (tmI rfl rfl) (by omega)) ?_
       refine wl_v (x_loadA Try.underlying64 rfl (by exact ts_64) (tmP rfl rfl) (rangeVs hS.ok 1 rfl (fun _ => rfl) (by omega))) ?_
       refine wl_e rfl ?_; intro K hK
       refine ow_alloc hS tz_64 rfl ?_
       clear hS; intro g3_2 w hg3_2 hS
       refine hK _ _ ?_; clear hK K
       refine wl_e rfl ?_; intro K hK
       refine ow_storeA hS 0 rfl ts_64 (tmP rfl rfl) (tmA rfl rfl) rfl rfl rfl ?_
       clear hS; intro w hS
       refine hK _ _ ?_; clear hK K
       refine wl_nil ?_
       refine then_n (hK7 _ _ ?_); clear hK7 K7
       refine wp_seq_k ?_; intro K8 hK8
       refine wlit ?_
       refine wl_v (x_fa 0 Try.underlying64 rfl rfl ts_3 (tmP rfl rfl)) ?_
       first
        | refine wl_v (x_load Try.underlying3 rfl (tmP rfl rfl) (cellB hS.ok 0 rfl rfl)) ?_
        | refine wl_v (x_load Try.underlying3 rfl (tmP rfl rfl) (cellB hS.ok 0 rfl (getm (by omega)))) ?_
       refine wl_v (x_fa 1 Try.underlying64 rfl rfl ts_3 (tmP rfl rfl)) ?_
       first
        | refine wl_v (x_load Try.underlying3 rfl (tmP rfl rfl) (cellB hS.ok 0 rfl rfl)) ?_
        | refine wl_v (x_load Try.underlying3 rfl (tmP rfl rfl) (cellB hS.ok 0 rfl (getm (by omega)))) ?_
       refine wl_e rfl ?_; intro K hK
       refine ow_build hS Try.underlying87 tz_3 (bc_take (tmI rfl rfl) <| bc_take (tmI rfl rfl) <| bc_nil) rfl rfl (by kernel_rfl) ?_
       clear hS; intro g4_4 w hg4_4 hS
       refine hK _ _ ?_; clear hK K
       refine wl_e rfl ?_; intro K hK
       refine ow_call Try.func23 rfl rfl (evs_cons (tmS rfl rfl) <| evs_nil) (fits_c (some ⟨g4_4, 0, none⟩) 2 2 [(l.getD k default).1, (l.getD k default).2] _ (viewB hS.ok 0 rfl) rfl (by omega)) ?_
       rintro e w ⟨rfl, hk2⟩
       refine ⟨_, rfl, ?_⟩
       replace hS := hS.kept hk2
       clear hk2
       refine hK _ _ ?_; clear hK K
       refine wl_v (x_not (tmB rfl rfl)) ?_
       refine wl_nil ?_
       refine then_n (hK8 _ _ ?_); clear hK8 K8
       refine cnd (tm rfl) (fun hc1 => ?_) (fun hc1 => ?_)
       · try (exfalso; first | with_reducible exact absurd hc1 Bool.false_ne_true | with_reducible exact absurd hc1.symm Bool.false_ne_true | (simp only [nrm] at hc1; omega) | (simp at hc1; done))
         all_goals
          try simp only [nrm] at hc1
          refine wp_seq_k ?_; intro K9 hK9
          refine wlit ?_
          refine wl_v (x_assign ev_c) ?_
          refine wl_nil ?_
          refine then_n (hK9 _ _ ?_); clear hK9 K9
          refine wp_ret ?_
          refine inb_r ?_
          refine then_r ?_
          refine then_r ?_
          refine inb_r ?_
          refine then_r ?_
          refine ret1 rfl (.tmp rfl (show _ = Value.bool _ from rfl)) ?_
          have h5 : (∀ z ∈ [h.kind, h.vip, h.be_, h.ve, h.way], okI z) ↔ (okI h.kind ∧ okI h.vip ∧ okI h.be_ ∧ okI h.ve ∧ okI h.way) := by simp
          refine ⟨ret_bool ?_, hS.kp⟩
          first
            | exact (decide_eq_false fun ho => hc1 (by have := ho.1 _ (gmem (l := l) (k := k) (by omega)); simp only [List.mem_cons, List.not_mem_nil, or_false]; rintro z (rfl | rfl); exact this.1; exact this.2)).symm
            | (have hms : okMs l := gall (p := fun q : Mm => okI q.1 ∧ okI q.2) hl (fun j hj => hok j (by omega))
               first
                 | (rw [decide_eq_decide]; exact ⟨fun h6 => ⟨hms, h5.1 hg7_12', hg7_17', by omega⟩, fun ho => by have := ho.2.2.2; omega⟩)
                 | exact (decide_eq_false fun ho => hg7_17' ho.2.2.1).symm
                 | exact (decide_eq_false fun ho => hg7_12' (h5.2 ho.2.1)).symm)
       try (exfalso; first | with_reducible exact absurd hc1 Bool.false_ne_true | with_reducible exact absurd hc1.symm Bool.false_ne_true | (simp only [nrm] at hc1; omega) | (simp at hc1; done))
       all_goals
        try simp only [nrm] at hc1
        refine wp_skip ?_
        refine inb_n ?_
        refine then_n (hK6 _ _ ?_); clear hK6 K6
        refine wlit ?_
        first
         | refine wl_v (x_addN (tmI rfl rfl) (ev_cN 1) (fit_i64 (by omega))) ?_
         | refine wl_v (x_addI (tmI rfl rfl) (ev_cN 1) (IntWalk.i64_in _ (by omega))) ?_
         | refine wl_v (x_add (tmI rfl rfl) (ev_cN 1)) ?_
        refine wl_v (x_move (tmI rfl rfl)) ?_
        refine wl_nil ?_
        have hfit : okI (l.getD k default).1 ∧ okI (l.getD k default).2 := by simpa using hc1
        have hok2 : ∀ j, j < k + 1 → okI (l.getD j default).1 ∧ okI (l.getD j default).2 := fun j hj => by rcases (by omega : j < k ∨ j = k) with h | rfl; exact hok j h; exact hfit
        exact then_n ⟨_, _, rfl, (by show _ < _; omega), (by repeat (first | exact agree_self | exact agree_refl | refine agree_upd rfl ?_ | refine agree_mix rfl ?_)), k + 1, rfl, (by first | rfl | go_num | exact congrArg (Value.int _) (by first | omega | (simp; done) | (simp; omega))), (hS.pick [2, 3] rfl rfl), (by omega), (by first | exact hok2 | exact (fun j hj => absurd hj (Nat.not_lt_zero j)))⟩
    try (exfalso; first | with_reducible exact absurd hc0 Bool.false_ne_true | with_reducible exact absurd hc0.symm Bool.false_ne_true | (simp only [nrm] at hc0; omega) | (simp at hc0; done))
    all_goals
     try simp only [nrm] at hc0
     refine wp_exit ?_
     refine then_x ?_; clear hK5 K5
     refine then_x ?_
     refine inb_x ?_
     refine then_n (hK2 _ _ ?_); clear hK2 K2
     refine wp_seq_k ?_; intro K10 hK10
     refine wlit ?_
     refine wl_v (x_fa 0 Try.underlying35 rfl rfl ts_3 (tmP rfl rfl)) ?_
     first
      | refine wl_v (x_load Try.underlying3 rfl (tmP rfl rfl) (cellB hS.ok 0 rfl rfl)) ?_
      | refine wl_v (x_load Try.underlying3 rfl (tmP rfl rfl) (cellB hS.ok 0 rfl (getm (by omega)))) ?_
     refine wl_v (x_fa 1 Try.underlying35 rfl rfl ts_3 (tmP rfl rfl)) ?_
     first
      | refine wl_v (x_load Try.underlying3 rfl (tmP rfl rfl) (cellB hS.ok 0 rfl rfl)) ?_
      | refine wl_v (x_load Try.underlying3 rfl (tmP rfl rfl) (cellB hS.ok 0 rfl (getm (by omega)))) ?_
     refine wl_v (x_fa 2 Try.underlying35 rfl rfl ts_3 (tmP rfl rfl)) ?_
     first
      | refine wl_v (x_load Try.underlying3 rfl (tmP rfl rfl) (cellB hS.ok 0 rfl rfl)) ?_
      | refine wl_v (x_load Try.underlying3 rfl (tmP rfl rfl) (cellB hS.ok 0 rfl (getm (by omega)))) ?_
     refine wl_v (x_fa 3 Try.underlying35 rfl rfl ts_3 (tmP rfl rfl)) ?_
     first
      | refine wl_v (x_load Try.underlying3 rfl (tmP rfl rfl) (cellB hS.ok 0 rfl rfl)) ?_
      | refine wl_v (x_load Try.underlying3 rfl (tmP rfl rfl) (cellB hS.ok 0 rfl (getm (by omega)))) ?_
     refine wl_v (x_fa 9 Try.underlying35 rfl rfl ts_3 (tmP rfl rfl)) ?_
     first
      | refine wl_v (x_load Try.underlying3 rfl (tmP rfl rfl) (cellB hS.ok 0 rfl rfl)) ?_
      | refine wl_v (x_load Try.underlying3 rfl (tmP rfl rfl) (cellB hS.ok 0 rfl (getm (by omega)))) ?_
     refine wl_e rfl ?_; intro K hK
     refine ow_build hS Try.underlying87 tz_3 (bc_take (tmI rfl rfl) <| bc_take (tmI rfl rfl) <| bc_take (tmI rfl rfl) <| bc_take (tmI rfl rfl) <| bc_take (tmI rfl rfl) <| bc_nil) rfl rfl (by kernel_rfl) ?_
     clear hS; intro g7_10 w hg7_10 hS
     refine hK _ _ ?_; clear hK K
     refine wl_e rfl ?_; intro K hK
     refine ow_call Try.func23 rfl rfl (evs_cons (tmS rfl rfl) <| evs_nil) (fits_c (some ⟨g7_10, 0, none⟩) 5 5 [h.kind, h.vip, h.be_, h.ve, h.way] _ (viewB hS.ok 0 rfl) rfl (by omega)) ?_
     rintro e w ⟨rfl, hk2⟩
     refine ⟨_, rfl, ?_⟩
     replace hS := hS.kept hk2
     clear hk2
     refine hK _ _ ?_; clear hK K
     refine wl_v (x_move (tmB rfl rfl)) ?_
     refine gs_wl (tm (t := 32) rfl) (fun hg7_12 => ?_) (fun hg7_12 => ?_)
     · have hg7_12' := hg7_12; (try simp only [nrm] at hg7_12'); try (exfalso; first | with_reducible exact absurd hg7_12 Bool.false_ne_true | with_reducible exact absurd hg7_12.symm Bool.false_ne_true | omega | (simp at hg7_12; done))
       all_goals
        refine wl_gv (want_y rfl rfl rfl rfl (by rw [hg7_12]; rfl)) (x_fa 4 Try.underlying35 rfl rfl ts_24 (tmP rfl rfl)) ?_
        refine wl_gv (want_y rfl rfl rfl rfl (by rw [hg7_12]; rfl)) (x_loadA (cs := [_, _, _]) Try.underlying24 rfl ts_24 (tmP rfl rfl) (rangeB hS.ok 1 rfl rfl)) ?_
        refine wl_g (want_y rfl rfl rfl rfl (by rw [hg7_12]; rfl)) ?_; intro K hK
        refine ow_call Try.func24 rfl rfl (evs_cons (tmA rfl rfl) <| evs_nil) (ad_right_c h.a _) ?_
        rintro e w ⟨rfl, hk2⟩
        refine ⟨_, rfl, ?_⟩
        replace hS := hS.kept hk2
        clear hk2
        refine hK _ _ ?_; clear hK K
        refine wl_v (x_pickT (tmB rfl rfl) hg7_12 (tmB rfl rfl)) ?_
        refine wl_v (x_move (tmB rfl rfl)) ?_
        refine gs_wl (tm (t := 37) rfl) (fun hg7_17 => ?_) (fun hg7_17 => ?_)
        · have hg7_17' := hg7_17; (try simp only [nrm] at hg7_17'); try (exfalso; first | with_reducible exact absurd hg7_17 Bool.false_ne_true | with_reducible exact absurd hg7_17.symm Bool.false_ne_true | omega | (simp at hg7_17; done))
          all_goals
           refine wl_gv (want_y rfl rfl rfl rfl (by rw [hg7_17]; rfl)) (x_fa 10 Try.underlying35 rfl rfl ts_33 (tmP rfl rfl)) ?_
           first
            | refine wl_gv (want_y rfl rfl rfl rfl (by rw [hg7_17]; rfl)) (x_load Try.underlying33 rfl (tmP rfl rfl) (cellB hS.ok 1 rfl rfl)) ?_
            | refine wl_gv (want_y rfl rfl rfl rfl (by rw [hg7_17]; rfl)) (x_load Try.underlying33 rfl (tmP rfl rfl) (cellB hS.ok 1 rfl (getm (by omega)))) ?_
           refine wl_gv (want_y rfl rfl rfl rfl (by rw [hg7_17]; rfl)) (x_len Try.underlying33 (tmS rfl rfl)) ?_
           refine wl_gv (want_y rfl rfl rfl rfl (by rw [hg7_17]; rfl)) (x_leq (tmI rfl rfl) (ev_cN 64)) ?_
           refine wl_v (x_pickT (tmB rfl rfl) hg7_17 (tmB rfl rfl)) ?_
           refine wl_v (x_assign (tmB rfl rfl)) ?_
           refine wl_nil ?_
           refine then_n (hK10 _ _ ?_); clear hK10 K10
           refine wp_ret ?_
           refine ret1 rfl (.tmp rfl (show _ = Value.bool _ from rfl)) ?_
           have h5 : (∀ z ∈ [h.kind, h.vip, h.be_, h.ve, h.way], okI z) ↔ (okI h.kind ∧ okI h.vip ∧ okI h.be_ ∧ okI h.ve ∧ okI h.way) := by simp
           refine ⟨ret_bool ?_, hS.kp⟩
           first
             | exact (decide_eq_false fun ho => hc1 (by have := ho.1 _ (gmem (l := l) (k := k) (by omega)); simp only [List.mem_cons, List.not_mem_nil, or_false]; rintro z (rfl | rfl); exact this.1; exact this.2)).symm
             | (have hms : okMs l := gall (p := fun q : Mm => okI q.1 ∧ okI q.2) hl (fun j hj => hok j (by omega))
                first
                  | (rw [decide_eq_decide]; exact ⟨fun h6 => ⟨hms, h5.1 hg7_12', hg7_17', by omega⟩, fun ho => by have := ho.2.2.2; omega⟩)
                  | exact (decide_eq_false fun ho => hg7_17' ho.2.2.1).symm
                  | exact (decide_eq_false fun ho => hg7_12' (h5.2 ho.2.1)).symm)
        have hg7_17' := hg7_17; (try simp only [nrm] at hg7_17'); try (exfalso; first | with_reducible exact absurd hg7_17 Bool.false_ne_true | with_reducible exact absurd hg7_17.symm Bool.false_ne_true | omega | (simp at hg7_17; done))
        all_goals
         refine wl_s rfl (want_n rfl rfl rfl rfl (by rw [hg7_17]; rfl)) ?_
         refine wl_s rfl (want_n rfl rfl rfl rfl (by rw [hg7_17]; rfl)) ?_
         refine wl_s rfl (want_n rfl rfl rfl rfl (by rw [hg7_17]; rfl)) ?_
         refine wl_s rfl (want_n rfl rfl rfl rfl (by rw [hg7_17]; rfl)) ?_
         refine wl_v (x_pickF (tmB rfl rfl) hg7_17 ev_c) ?_
         refine wl_v (x_assign (tmB rfl rfl)) ?_
         refine wl_nil ?_
         refine then_n (hK10 _ _ ?_); clear hK10 K10
         refine wp_ret ?_
         refine ret1 rfl (.tmp rfl (show _ = Value.bool _ from rfl)) ?_
         have h5 : (∀ z ∈ [h.kind, h.vip, h.be_, h.ve, h.way], okI z) ↔ (okI h.kind ∧ okI h.vip ∧ okI h.be_ ∧ okI h.ve ∧ okI h.way) := by simp
         refine ⟨ret_bool ?_, hS.kp⟩
         first
           | exact (decide_eq_false fun ho => hc1 (by have := ho.1 _ (gmem (l := l) (k := k) (by omega)); simp only [List.mem_cons, List.not_mem_nil, or_false]; rintro z (rfl | rfl); exact this.1; exact this.2)).symm
           | (have hms : okMs l := gall (p := fun q : Mm => okI q.1 ∧ okI q.2) hl (fun j hj => hok j (by omega))
              first
                | (rw [decide_eq_decide]; exact ⟨fun h6 => ⟨hms, h5.1 hg7_12', hg7_17', by omega⟩, fun ho => by have := ho.2.2.2; omega⟩)
                | exact (decide_eq_false fun ho => hg7_17' ho.2.2.1).symm
                | exact (decide_eq_false fun ho => hg7_12' (h5.2 ho.2.1)).symm)
     have hg7_12' := hg7_12; (try simp only [nrm] at hg7_12'); try (exfalso; first | with_reducible exact absurd hg7_12 Bool.false_ne_true | with_reducible exact absurd hg7_12.symm Bool.false_ne_true | omega | (simp at hg7_12; done))
     all_goals
      refine wl_s rfl (want_n rfl rfl rfl rfl (by rw [hg7_12]; rfl)) ?_
      refine wl_s rfl (want_n rfl rfl rfl rfl (by rw [hg7_12]; rfl)) ?_
      refine wl_s rfl (want_n rfl rfl rfl rfl (by rw [hg7_12]; rfl)) ?_
      refine wl_v (x_pickF (tmB rfl rfl) hg7_12 ev_c) ?_
      refine wl_v (x_move (tmB rfl rfl)) ?_
      refine wl_s rfl (want_n rfl rfl rfl rfl rfl) ?_
      refine wl_s rfl (want_n rfl rfl rfl rfl rfl) ?_
      refine wl_s rfl (want_n rfl rfl rfl rfl rfl) ?_
      refine wl_s rfl (want_n rfl rfl rfl rfl rfl) ?_
      refine wl_v (x_pickF (tmB rfl rfl) rfl ev_c) ?_
      refine wl_v (x_assign (tmB rfl rfl)) ?_
      refine wl_nil ?_
      refine then_n (hK10 _ _ ?_); clear hK10 K10
      refine wp_ret ?_
      refine ret1 rfl (.tmp rfl (show _ = Value.bool _ from rfl)) ?_
      have h5 : (∀ z ∈ [h.kind, h.vip, h.be_, h.ve, h.way], okI z) ↔ (okI h.kind ∧ okI h.vip ∧ okI h.be_ ∧ okI h.ve ∧ okI h.way) := by simp
      refine ⟨ret_bool ?_, hS.kp⟩
      first
        | exact (decide_eq_false fun ho => hc1 (by have := ho.1 _ (gmem (l := l) (k := k) (by omega)); simp only [List.mem_cons, List.not_mem_nil, or_false]; rintro z (rfl | rfl); exact this.1; exact this.2)).symm
        | (have hms : okMs l := gall (p := fun q : Mm => okI q.1 ∧ okI q.2) hl (fun j hj => hok j (by omega))
           first
             | (rw [decide_eq_decide]; exact ⟨fun h6 => ⟨hms, h5.1 hg7_12', hg7_17', by omega⟩, fun ho => by have := ho.2.2.2; omega⟩)
             | exact (decide_eq_false fun ho => hg7_17' ho.2.2.1).symm
             | exact (decide_eq_false fun ho => hg7_12' (h5.2 ho.2.1)).symm)
def hdOk (h : Hp) (n : Nat) : Prop := (okI h.kind ∧ okI h.vip ∧ okI h.be_ ∧ okI h.ve ∧ okI h.way) ∧ adRight h.a ∧ n ≤ 64
set_option maxRecDepth 100000 in
set_option maxHeartbeats 8000000 in
theorem rcoright_c (h : Hp) (L : Option Addr) (n c : Nat) (l : List Mm) (w0 : World) (hv : View w0 w0.heap.size L (flat mmV l)) (hl : l.length = n) (hn : n ≤ 1000) (hlim : hpLim h) :
    Calls Try.prog 11 #[.agg (opV h L n c).toArray] w0 fun e w' => e = .returned (.bool (decide (okOp h l))) ∧ Kp [] w0 w' := by
  obtain ⟨hla, hlp, hlq⟩ := hlim
  have hfl := flat_length (enc := mmV) (l := l) mmV_len
  have hS := (St.sv w0).vcons rfl hv
  refine ent (n := 66) Try.func11 rfl rfl ?_
  refine wp_seq_k ?_; intro K1 hK1
  refine wlit ?_
  refine wl_e rfl ?_; intro K hK
  refine ow_box hS (tmA rfl rfl) rfl ?_
  clear hS; intro g0_0 w hg0_0 hS
  refine hK _ _ ?_; clear hK K
  refine wl_v (x_assign ev_c) ?_
  refine wl_nil ?_
  refine then_n (hK1 _ _ ?_); clear hK1 K1
  refine wp_seq_k ?_; intro K2 hK2
  refine cutc [3, 5, 6, 7, 8, 9, 10, 11, 12, 13, 14, 15, 16, 17, 18, 19, 20, 21, 22, 23, 24, 25, 26, 27, 28, 29, 30, 31, 32, 33, 34, 35, 36, 37, 38] (fun g w => ∃ (b0 : Bool), g 3 = .bool b0 ∧ St [] w0 [.blk g0_0 28 (opV h L n c), .vw L (flat mmV l)] w ∧ (b0 = true ↔ hdOk h n)) ?_ ?_
  · skip
    refine wlit ?_
    refine wl_v (x_fa 0 Try.underlying28 rfl rfl ts_3 (tmP rfl rfl)) ?_
    first
     | refine wl_v (x_load Try.underlying3 rfl (tmP rfl rfl) (cellB hS.ok 0 rfl rfl)) ?_
     | refine wl_v (x_load Try.underlying3 rfl (tmP rfl rfl) (cellB hS.ok 0 rfl (getm (by omega)))) ?_
    refine wl_e rfl ?_; intro K hK
    refine ow_call Try.func25 rfl rfl (evs_cons (tmI rfl rfl) <| evs_nil) (small_c _ _) ?_
    rintro e w ⟨rfl, hk2⟩
    refine ⟨_, rfl, ?_⟩
    replace hS := hS.kept hk2
    clear hk2
    refine hK _ _ ?_; clear hK K
    refine wl_v (x_move (tmB rfl rfl)) ?_
    refine gs_wl (tm (t := 8) rfl) (fun hg1_3 => ?_) (fun hg1_3 => ?_)
    · have hg1_3' := hg1_3; (try simp only [nrm] at hg1_3'); try (exfalso; first | with_reducible exact absurd hg1_3 Bool.false_ne_true | with_reducible exact absurd hg1_3.symm Bool.false_ne_true | omega | (simp at hg1_3; done))
      all_goals
       refine wl_gv (want_y rfl rfl rfl rfl (by rw [hg1_3]; rfl)) (x_fa 1 Try.underlying28 rfl rfl ts_3 (tmP rfl rfl)) ?_
       first
        | refine wl_gv (want_y rfl rfl rfl rfl (by rw [hg1_3]; rfl)) (x_load Try.underlying3 rfl (tmP rfl rfl) (cellB hS.ok 0 rfl rfl)) ?_
        | refine wl_gv (want_y rfl rfl rfl rfl (by rw [hg1_3]; rfl)) (x_load Try.underlying3 rfl (tmP rfl rfl) (cellB hS.ok 0 rfl (getm (by omega)))) ?_
       refine wl_g (want_y rfl rfl rfl rfl (by rw [hg1_3]; rfl)) ?_; intro K hK
       refine ow_call Try.func25 rfl rfl (evs_cons (tmI rfl rfl) <| evs_nil) (small_c _ _) ?_
       rintro e w ⟨rfl, hk2⟩
       refine ⟨_, rfl, ?_⟩
       replace hS := hS.kept hk2
       clear hk2
       refine hK _ _ ?_; clear hK K
       refine wl_v (x_pickT (tmB rfl rfl) hg1_3 (tmB rfl rfl)) ?_
       refine wl_v (x_move (tmB rfl rfl)) ?_
       refine gs_wl (tm (t := 13) rfl) (fun hg1_8 => ?_) (fun hg1_8 => ?_)
       · have hg1_8' := hg1_8; (try simp only [nrm] at hg1_8'); try (exfalso; first | with_reducible exact absurd hg1_8 Bool.false_ne_true | with_reducible exact absurd hg1_8.symm Bool.false_ne_true | omega | (simp at hg1_8; done))
         all_goals
          refine wl_gv (want_y rfl rfl rfl rfl (by rw [hg1_8]; rfl)) (x_fa 2 Try.underlying28 rfl rfl ts_3 (tmP rfl rfl)) ?_
          first
           | refine wl_gv (want_y rfl rfl rfl rfl (by rw [hg1_8]; rfl)) (x_load Try.underlying3 rfl (tmP rfl rfl) (cellB hS.ok 0 rfl rfl)) ?_
           | refine wl_gv (want_y rfl rfl rfl rfl (by rw [hg1_8]; rfl)) (x_load Try.underlying3 rfl (tmP rfl rfl) (cellB hS.ok 0 rfl (getm (by omega)))) ?_
          refine wl_g (want_y rfl rfl rfl rfl (by rw [hg1_8]; rfl)) ?_; intro K hK
          refine ow_call Try.func25 rfl rfl (evs_cons (tmI rfl rfl) <| evs_nil) (small_c _ _) ?_
          rintro e w ⟨rfl, hk2⟩
          refine ⟨_, rfl, ?_⟩
          replace hS := hS.kept hk2
          clear hk2
          refine hK _ _ ?_; clear hK K
          refine wl_v (x_pickT (tmB rfl rfl) hg1_8 (tmB rfl rfl)) ?_
          refine wl_v (x_move (tmB rfl rfl)) ?_
          refine gs_wl (tm (t := 18) rfl) (fun hg1_13 => ?_) (fun hg1_13 => ?_)
          · have hg1_13' := hg1_13; (try simp only [nrm] at hg1_13'); try (exfalso; first | with_reducible exact absurd hg1_13 Bool.false_ne_true | with_reducible exact absurd hg1_13.symm Bool.false_ne_true | omega | (simp at hg1_13; done))
            all_goals
             refine wl_gv (want_y rfl rfl rfl rfl (by rw [hg1_13]; rfl)) (x_fa 3 Try.underlying28 rfl rfl ts_3 (tmP rfl rfl)) ?_
             first
              | refine wl_gv (want_y rfl rfl rfl rfl (by rw [hg1_13]; rfl)) (x_load Try.underlying3 rfl (tmP rfl rfl) (cellB hS.ok 0 rfl rfl)) ?_
              | refine wl_gv (want_y rfl rfl rfl rfl (by rw [hg1_13]; rfl)) (x_load Try.underlying3 rfl (tmP rfl rfl) (cellB hS.ok 0 rfl (getm (by omega)))) ?_
             refine wl_g (want_y rfl rfl rfl rfl (by rw [hg1_13]; rfl)) ?_; intro K hK
             refine ow_call Try.func25 rfl rfl (evs_cons (tmI rfl rfl) <| evs_nil) (small_c _ _) ?_
             rintro e w ⟨rfl, hk2⟩
             refine ⟨_, rfl, ?_⟩
             replace hS := hS.kept hk2
             clear hk2
             refine hK _ _ ?_; clear hK K
             refine wl_v (x_pickT (tmB rfl rfl) hg1_13 (tmB rfl rfl)) ?_
             refine wl_v (x_move (tmB rfl rfl)) ?_
             refine gs_wl (tm (t := 23) rfl) (fun hg1_18 => ?_) (fun hg1_18 => ?_)
             · have hg1_18' := hg1_18; (try simp only [nrm] at hg1_18'); try (exfalso; first | with_reducible exact absurd hg1_18 Bool.false_ne_true | with_reducible exact absurd hg1_18.symm Bool.false_ne_true | omega | (simp at hg1_18; done))
               all_goals
                refine wl_gv (want_y rfl rfl rfl rfl (by rw [hg1_18]; rfl)) (x_fa 9 Try.underlying28 rfl rfl ts_3 (tmP rfl rfl)) ?_
                first
                 | refine wl_gv (want_y rfl rfl rfl rfl (by rw [hg1_18]; rfl)) (x_load Try.underlying3 rfl (tmP rfl rfl) (cellB hS.ok 0 rfl rfl)) ?_
                 | refine wl_gv (want_y rfl rfl rfl rfl (by rw [hg1_18]; rfl)) (x_load Try.underlying3 rfl (tmP rfl rfl) (cellB hS.ok 0 rfl (getm (by omega)))) ?_
                refine wl_g (want_y rfl rfl rfl rfl (by rw [hg1_18]; rfl)) ?_; intro K hK
                refine ow_call Try.func25 rfl rfl (evs_cons (tmI rfl rfl) <| evs_nil) (small_c _ _) ?_
                rintro e w ⟨rfl, hk2⟩
                refine ⟨_, rfl, ?_⟩
                replace hS := hS.kept hk2
                clear hk2
                refine hK _ _ ?_; clear hK K
                refine wl_v (x_pickT (tmB rfl rfl) hg1_18 (tmB rfl rfl)) ?_
                refine wl_v (x_move (tmB rfl rfl)) ?_
                refine gs_wl (tm (t := 28) rfl) (fun hg1_23 => ?_) (fun hg1_23 => ?_)
                · have hg1_23' := hg1_23; (try simp only [nrm] at hg1_23'); try (exfalso; first | with_reducible exact absurd hg1_23 Bool.false_ne_true | with_reducible exact absurd hg1_23.symm Bool.false_ne_true | omega | (simp at hg1_23; done))
                  all_goals
                   refine wl_gv (want_y rfl rfl rfl rfl (by rw [hg1_23]; rfl)) (x_fa 4 Try.underlying28 rfl rfl ts_24 (tmP rfl rfl)) ?_
                   refine wl_gv (want_y rfl rfl rfl rfl (by rw [hg1_23]; rfl)) (x_loadA (cs := [_, _, _]) Try.underlying24 rfl ts_24 (tmP rfl rfl) (rangeB hS.ok 0 rfl rfl)) ?_
                   refine wl_g (want_y rfl rfl rfl rfl (by rw [hg1_23]; rfl)) ?_; intro K hK
                   refine ow_call Try.func26 rfl rfl (evs_cons (tmA rfl rfl) <| evs_nil) (rad_right_c h.a _) ?_
                   rintro e w ⟨rfl, hk2⟩
                   refine ⟨_, rfl, ?_⟩
                   replace hS := hS.kept hk2
                   clear hk2
                   refine hK _ _ ?_; clear hK K
                   refine wl_v (x_pickT (tmB rfl rfl) hg1_23 (tmB rfl rfl)) ?_
                   refine wl_v (x_move (tmB rfl rfl)) ?_
                   refine gs_wl (tm (t := 33) rfl) (fun hg1_28 => ?_) (fun hg1_28 => ?_)
                   · have hg1_28' := hg1_28; (try simp only [nrm] at hg1_28'); try (exfalso; first | with_reducible exact absurd hg1_28 Bool.false_ne_true | with_reducible exact absurd hg1_28.symm Bool.false_ne_true | omega | (simp at hg1_28; done))
                     all_goals
                      refine wl_gv (want_y rfl rfl rfl rfl (by rw [hg1_28]; rfl)) (x_fa 10 Try.underlying28 rfl rfl ts_26 (tmP rfl rfl)) ?_
                      first
                       | refine wl_gv (want_y rfl rfl rfl rfl (by rw [hg1_28]; rfl)) (x_load Try.underlying26 rfl (tmP rfl rfl) (cellB hS.ok 0 rfl rfl)) ?_
                       | refine wl_gv (want_y rfl rfl rfl rfl (by rw [hg1_28]; rfl)) (x_load Try.underlying26 rfl (tmP rfl rfl) (cellB hS.ok 0 rfl (getm (by omega)))) ?_
                      refine wl_gv (want_y rfl rfl rfl rfl (by rw [hg1_28]; rfl)) (x_len Try.underlying26 (tmS rfl rfl)) ?_
                      refine wl_gv (want_y rfl rfl rfl rfl (by rw [hg1_28]; rfl)) (x_leq (tmI rfl rfl) (ev_cN 64)) ?_
                      refine wl_v (x_pickT (tmB rfl rfl) hg1_28 (tmB rfl rfl)) ?_
                      refine wl_v (x_assign (tmB rfl rfl)) ?_
                      refine wl_nil ?_
                      exact then_n ⟨_, rfl, (by repeat (first | exact agree_self | exact agree_refl | refine agree_upd rfl ?_ | refine agree_mix rfl ?_)), _, (by first | rfl | go_num | exact congrArg (Value.int _) (by first | omega | (simp; done) | (simp; omega))), hS, (by exact ⟨fun hbb => (by first | (cases hbb; done) | exact ⟨⟨hg1_3', hg1_8', hg1_13', hg1_18', hg1_23'⟩, hg1_28', by have := of_decide_eq_true hbb; omega⟩), fun ⟨⟨o1, o2, o3, o4, o5⟩, o6, o7⟩ => (by first | exact decide_eq_true (by omega) | exact absurd o1 hg1_3' | exact absurd o2 hg1_8' | exact absurd o3 hg1_13' | exact absurd o4 hg1_18' | exact absurd o5 hg1_23' | exact absurd o6 hg1_28')⟩)⟩
                   have hg1_28' := hg1_28; (try simp only [nrm] at hg1_28'); try (exfalso; first | with_reducible exact absurd hg1_28 Bool.false_ne_true | with_reducible exact absurd hg1_28.symm Bool.false_ne_true | omega | (simp at hg1_28; done))
                   all_goals
                    refine wl_s rfl (want_n rfl rfl rfl rfl (by rw [hg1_28]; rfl)) ?_
                    refine wl_s rfl (want_n rfl rfl rfl rfl (by rw [hg1_28]; rfl)) ?_
                    refine wl_s rfl (want_n rfl rfl rfl rfl (by rw [hg1_28]; rfl)) ?_
                    refine wl_s rfl (want_n rfl rfl rfl rfl (by rw [hg1_28]; rfl)) ?_
                    refine wl_v (x_pickF (tmB rfl rfl) hg1_28 ev_c) ?_
                    refine wl_v (x_assign (tmB rfl rfl)) ?_
                    refine wl_nil ?_
                    exact then_n ⟨_, rfl, (by repeat (first | exact agree_self | exact agree_refl | refine agree_upd rfl ?_ | refine agree_mix rfl ?_)), _, (by first | rfl | go_num | exact congrArg (Value.int _) (by first | omega | (simp; done) | (simp; omega))), hS, (by exact ⟨fun hbb => (by first | (cases hbb; done) | exact ⟨⟨hg1_3', hg1_8', hg1_13', hg1_18', hg1_23'⟩, hg1_28', by have := of_decide_eq_true hbb; omega⟩), fun ⟨⟨o1, o2, o3, o4, o5⟩, o6, o7⟩ => (by first | exact decide_eq_true (by omega) | exact absurd o1 hg1_3' | exact absurd o2 hg1_8' | exact absurd o3 hg1_13' | exact absurd o4 hg1_18' | exact absurd o5 hg1_23' | exact absurd o6 hg1_28')⟩)⟩
                have hg1_23' := hg1_23; (try simp only [nrm] at hg1_23'); try (exfalso; first | with_reducible exact absurd hg1_23 Bool.false_ne_true | with_reducible exact absurd hg1_23.symm Bool.false_ne_true | omega | (simp at hg1_23; done))
                all_goals
                 refine wl_s rfl (want_n rfl rfl rfl rfl (by rw [hg1_23]; rfl)) ?_
                 refine wl_s rfl (want_n rfl rfl rfl rfl (by rw [hg1_23]; rfl)) ?_
                 refine wl_s rfl (want_n rfl rfl rfl rfl (by rw [hg1_23]; rfl)) ?_
                 refine wl_v (x_pickF (tmB rfl rfl) hg1_23 ev_c) ?_
                 refine wl_v (x_move (tmB rfl rfl)) ?_
                 refine wl_s rfl (want_n rfl rfl rfl rfl rfl) ?_
                 refine wl_s rfl (want_n rfl rfl rfl rfl rfl) ?_
                 refine wl_s rfl (want_n rfl rfl rfl rfl rfl) ?_
                 refine wl_s rfl (want_n rfl rfl rfl rfl rfl) ?_
                 refine wl_v (x_pickF (tmB rfl rfl) rfl ev_c) ?_
                 refine wl_v (x_assign (tmB rfl rfl)) ?_
                 refine wl_nil ?_
                 exact then_n ⟨_, rfl, (by repeat (first | exact agree_self | exact agree_refl | refine agree_upd rfl ?_ | refine agree_mix rfl ?_)), _, (by first | rfl | go_num | exact congrArg (Value.int _) (by first | omega | (simp; done) | (simp; omega))), hS, (by exact ⟨fun hbb => (by first | (cases hbb; done) | exact ⟨⟨hg1_3', hg1_8', hg1_13', hg1_18', hg1_23'⟩, hg1_28', by have := of_decide_eq_true hbb; omega⟩), fun ⟨⟨o1, o2, o3, o4, o5⟩, o6, o7⟩ => (by first | exact decide_eq_true (by omega) | exact absurd o1 hg1_3' | exact absurd o2 hg1_8' | exact absurd o3 hg1_13' | exact absurd o4 hg1_18' | exact absurd o5 hg1_23' | exact absurd o6 hg1_28')⟩)⟩
             have hg1_18' := hg1_18; (try simp only [nrm] at hg1_18'); try (exfalso; first | with_reducible exact absurd hg1_18 Bool.false_ne_true | with_reducible exact absurd hg1_18.symm Bool.false_ne_true | omega | (simp at hg1_18; done))
             all_goals
              refine wl_s rfl (want_n rfl rfl rfl rfl (by rw [hg1_18]; rfl)) ?_
              refine wl_s rfl (want_n rfl rfl rfl rfl (by rw [hg1_18]; rfl)) ?_
              refine wl_s rfl (want_n rfl rfl rfl rfl (by rw [hg1_18]; rfl)) ?_
              refine wl_v (x_pickF (tmB rfl rfl) hg1_18 ev_c) ?_
              refine wl_v (x_move (tmB rfl rfl)) ?_
              refine wl_s rfl (want_n rfl rfl rfl rfl rfl) ?_
              refine wl_s rfl (want_n rfl rfl rfl rfl rfl) ?_
              refine wl_s rfl (want_n rfl rfl rfl rfl rfl) ?_
              refine wl_v (x_pickF (tmB rfl rfl) rfl ev_c) ?_
              refine wl_v (x_move (tmB rfl rfl)) ?_
              refine wl_s rfl (want_n rfl rfl rfl rfl rfl) ?_
              refine wl_s rfl (want_n rfl rfl rfl rfl rfl) ?_
              refine wl_s rfl (want_n rfl rfl rfl rfl rfl) ?_
              refine wl_s rfl (want_n rfl rfl rfl rfl rfl) ?_
              refine wl_v (x_pickF (tmB rfl rfl) rfl ev_c) ?_
              refine wl_v (x_assign (tmB rfl rfl)) ?_
              refine wl_nil ?_
              exact then_n ⟨_, rfl, (by repeat (first | exact agree_self | exact agree_refl | refine agree_upd rfl ?_ | refine agree_mix rfl ?_)), _, (by first | rfl | go_num | exact congrArg (Value.int _) (by first | omega | (simp; done) | (simp; omega))), hS, (by exact ⟨fun hbb => (by first | (cases hbb; done) | exact ⟨⟨hg1_3', hg1_8', hg1_13', hg1_18', hg1_23'⟩, hg1_28', by have := of_decide_eq_true hbb; omega⟩), fun ⟨⟨o1, o2, o3, o4, o5⟩, o6, o7⟩ => (by first | exact decide_eq_true (by omega) | exact absurd o1 hg1_3' | exact absurd o2 hg1_8' | exact absurd o3 hg1_13' | exact absurd o4 hg1_18' | exact absurd o5 hg1_23' | exact absurd o6 hg1_28')⟩)⟩
          have hg1_13' := hg1_13; (try simp only [nrm] at hg1_13'); try (exfalso; first | with_reducible exact absurd hg1_13 Bool.false_ne_true | with_reducible exact absurd hg1_13.symm Bool.false_ne_true | omega | (simp at hg1_13; done))
          all_goals
           refine wl_s rfl (want_n rfl rfl rfl rfl (by rw [hg1_13]; rfl)) ?_
           refine wl_s rfl (want_n rfl rfl rfl rfl (by rw [hg1_13]; rfl)) ?_
           refine wl_s rfl (want_n rfl rfl rfl rfl (by rw [hg1_13]; rfl)) ?_
           refine wl_v (x_pickF (tmB rfl rfl) hg1_13 ev_c) ?_
           refine wl_v (x_move (tmB rfl rfl)) ?_
           refine wl_s rfl (want_n rfl rfl rfl rfl rfl) ?_
           refine wl_s rfl (want_n rfl rfl rfl rfl rfl) ?_
           refine wl_s rfl (want_n rfl rfl rfl rfl rfl) ?_
           refine wl_v (x_pickF (tmB rfl rfl) rfl ev_c) ?_
           refine wl_v (x_move (tmB rfl rfl)) ?_
           refine wl_s rfl (want_n rfl rfl rfl rfl rfl) ?_
           refine wl_s rfl (want_n rfl rfl rfl rfl rfl) ?_
           refine wl_s rfl (want_n rfl rfl rfl rfl rfl) ?_
           refine wl_v (x_pickF (tmB rfl rfl) rfl ev_c) ?_
           refine wl_v (x_move (tmB rfl rfl)) ?_
           refine wl_s rfl (want_n rfl rfl rfl rfl rfl) ?_
           refine wl_s rfl (want_n rfl rfl rfl rfl rfl) ?_
           refine wl_s rfl (want_n rfl rfl rfl rfl rfl) ?_
           refine wl_s rfl (want_n rfl rfl rfl rfl rfl) ?_
           refine wl_v (x_pickF (tmB rfl rfl) rfl ev_c) ?_
           refine wl_v (x_assign (tmB rfl rfl)) ?_
           refine wl_nil ?_
           exact then_n ⟨_, rfl, (by repeat (first | exact agree_self | exact agree_refl | refine agree_upd rfl ?_ | refine agree_mix rfl ?_)), _, (by first | rfl | go_num | exact congrArg (Value.int _) (by first | omega | (simp; done) | (simp; omega))), hS, (by exact ⟨fun hbb => (by first | (cases hbb; done) | exact ⟨⟨hg1_3', hg1_8', hg1_13', hg1_18', hg1_23'⟩, hg1_28', by have := of_decide_eq_true hbb; omega⟩), fun ⟨⟨o1, o2, o3, o4, o5⟩, o6, o7⟩ => (by first | exact decide_eq_true (by omega) | exact absurd o1 hg1_3' | exact absurd o2 hg1_8' | exact absurd o3 hg1_13' | exact absurd o4 hg1_18' | exact absurd o5 hg1_23' | exact absurd o6 hg1_28')⟩)⟩
       have hg1_8' := hg1_8; (try simp only [nrm] at hg1_8'); try (exfalso; first | with_reducible exact absurd hg1_8 Bool.false_ne_true | with_reducible exact absurd hg1_8.symm Bool.false_ne_true | omega | (simp at hg1_8; done))
       all_goals
        refine wl_s rfl (want_n rfl rfl rfl rfl (by rw [hg1_8]; rfl)) ?_
        refine wl_s rfl (want_n rfl rfl rfl rfl (by rw [hg1_8]; rfl)) ?_
        refine wl_s rfl (want_n rfl rfl rfl rfl (by rw [hg1_8]; rfl)) ?_
        refine wl_v (x_pickF (tmB rfl rfl) hg1_8 ev_c) ?_
        refine wl_v (x_move (tmB rfl rfl)) ?_
        refine wl_s rfl (want_n rfl rfl rfl rfl rfl) ?_
        refine wl_s rfl (want_n rfl rfl rfl rfl rfl) ?_
        refine wl_s rfl (want_n rfl rfl rfl rfl rfl) ?_
        refine wl_v (x_pickF (tmB rfl rfl) rfl ev_c) ?_
        refine wl_v (x_move (tmB rfl rfl)) ?_
        refine wl_s rfl (want_n rfl rfl rfl rfl rfl) ?_
        refine wl_s rfl (want_n rfl rfl rfl rfl rfl) ?_
        refine wl_s rfl (want_n rfl rfl rfl rfl rfl) ?_
        refine wl_v (x_pickF (tmB rfl rfl) rfl ev_c) ?_
        refine wl_v (x_move (tmB rfl rfl)) ?_
        refine wl_s rfl (want_n rfl rfl rfl rfl rfl) ?_
        refine wl_s rfl (want_n rfl rfl rfl rfl rfl) ?_
        refine wl_s rfl (want_n rfl rfl rfl rfl rfl) ?_
        refine wl_v (x_pickF (tmB rfl rfl) rfl ev_c) ?_
        refine wl_v (x_move (tmB rfl rfl)) ?_
        refine wl_s rfl (want_n rfl rfl rfl rfl rfl) ?_
        refine wl_s rfl (want_n rfl rfl rfl rfl rfl) ?_
        refine wl_s rfl (want_n rfl rfl rfl rfl rfl) ?_
        refine wl_s rfl (want_n rfl rfl rfl rfl rfl) ?_
        refine wl_v (x_pickF (tmB rfl rfl) rfl ev_c) ?_
        refine wl_v (x_assign (tmB rfl rfl)) ?_
        refine wl_nil ?_
        exact then_n ⟨_, rfl, (by repeat (first | exact agree_self | exact agree_refl | refine agree_upd rfl ?_ | refine agree_mix rfl ?_)), _, (by first | rfl | go_num | exact congrArg (Value.int _) (by first | omega | (simp; done) | (simp; omega))), hS, (by exact ⟨fun hbb => (by first | (cases hbb; done) | exact ⟨⟨hg1_3', hg1_8', hg1_13', hg1_18', hg1_23'⟩, hg1_28', by have := of_decide_eq_true hbb; omega⟩), fun ⟨⟨o1, o2, o3, o4, o5⟩, o6, o7⟩ => (by first | exact decide_eq_true (by omega) | exact absurd o1 hg1_3' | exact absurd o2 hg1_8' | exact absurd o3 hg1_13' | exact absurd o4 hg1_18' | exact absurd o5 hg1_23' | exact absurd o6 hg1_28')⟩)⟩
    have hg1_3' := hg1_3; (try simp only [nrm] at hg1_3'); try (exfalso; first | with_reducible exact absurd hg1_3 Bool.false_ne_true | with_reducible exact absurd hg1_3.symm Bool.false_ne_true | omega | (simp at hg1_3; done))
    all_goals
     refine wl_s rfl (want_n rfl rfl rfl rfl (by rw [hg1_3]; rfl)) ?_
     refine wl_s rfl (want_n rfl rfl rfl rfl (by rw [hg1_3]; rfl)) ?_
     refine wl_s rfl (want_n rfl rfl rfl rfl (by rw [hg1_3]; rfl)) ?_
     refine wl_v (x_pickF (tmB rfl rfl) hg1_3 ev_c) ?_
     refine wl_v (x_move (tmB rfl rfl)) ?_
     refine wl_s rfl (want_n rfl rfl rfl rfl rfl) ?_
     refine wl_s rfl (want_n rfl rfl rfl rfl rfl) ?_
     refine wl_s rfl (want_n rfl rfl rfl rfl rfl) ?_
     refine wl_v (x_pickF (tmB rfl rfl) rfl ev_c) ?_
     refine wl_v (x_move (tmB rfl rfl)) ?_
     refine wl_s rfl (want_n rfl rfl rfl rfl rfl) ?_
     refine wl_s rfl (want_n rfl rfl rfl rfl rfl) ?_
     refine wl_s rfl (want_n rfl rfl rfl rfl rfl) ?_
     refine wl_v (x_pickF (tmB rfl rfl) rfl ev_c) ?_
     refine wl_v (x_move (tmB rfl rfl)) ?_
     refine wl_s rfl (want_n rfl rfl rfl rfl rfl) ?_
     refine wl_s rfl (want_n rfl rfl rfl rfl rfl) ?_
     refine wl_s rfl (want_n rfl rfl rfl rfl rfl) ?_
     refine wl_v (x_pickF (tmB rfl rfl) rfl ev_c) ?_
     refine wl_v (x_move (tmB rfl rfl)) ?_
     refine wl_s rfl (want_n rfl rfl rfl rfl rfl) ?_
     refine wl_s rfl (want_n rfl rfl rfl rfl rfl) ?_
     refine wl_s rfl (want_n rfl rfl rfl rfl rfl) ?_
     refine wl_v (x_pickF (tmB rfl rfl) rfl ev_c) ?_
     refine wl_v (x_move (tmB rfl rfl)) ?_
     refine wl_s rfl (want_n rfl rfl rfl rfl rfl) ?_
     refine wl_s rfl (want_n rfl rfl rfl rfl rfl) ?_
     refine wl_s rfl (want_n rfl rfl rfl rfl rfl) ?_
     refine wl_s rfl (want_n rfl rfl rfl rfl rfl) ?_
     refine wl_v (x_pickF (tmB rfl rfl) rfl ev_c) ?_
     refine wl_v (x_assign (tmB rfl rfl)) ?_
     refine wl_nil ?_
     exact then_n ⟨_, rfl, (by repeat (first | exact agree_self | exact agree_refl | refine agree_upd rfl ?_ | refine agree_mix rfl ?_)), _, (by first | rfl | go_num | exact congrArg (Value.int _) (by first | omega | (simp; done) | (simp; omega))), hS, (by exact ⟨fun hbb => (by first | (cases hbb; done) | exact ⟨⟨hg1_3', hg1_8', hg1_13', hg1_18', hg1_23'⟩, hg1_28', by have := of_decide_eq_true hbb; omega⟩), fun ⟨⟨o1, o2, o3, o4, o5⟩, o6, o7⟩ => (by first | exact decide_eq_true (by omega) | exact absurd o1 hg1_3' | exact absurd o2 hg1_8' | exact absurd o3 hg1_13' | exact absurd o4 hg1_18' | exact absurd o5 hg1_23' | exact absurd o6 hg1_28')⟩)⟩
  · clear hS; intro g w hI
    obtain ⟨b0, hs3, hS, hb0⟩ := hI
    refine fr_knowQ (d := 3) hs3 ?_; clear hs3
    refine then_n (hK2 _ _ ?_); clear hK2 K2
    refine wp_seq_k ?_; intro K4 hK4
    refine wp_seq_k ?_; intro K5 hK5
    refine wlit ?_
    refine wl_v (x_assign (ev_cN 0)) ?_
    refine wl_nil ?_
    refine then_n (hK5 _ _ ?_); clear hK5 K5
    refine wp_block ?_
    refine lp [3, 4, 39, 40, 41, 42, 43, 44, 45, 46, 47, 48, 49, 50, 51, 52, 53, 54, 55, 56, 57, 58, 59, 60, 61, 62, 63, 64] (fun mz g w => ∃ (k : Nat), ∃ (b : Bool), mz = n - k ∧ g 4 = .int .i64 (k : Int) ∧ g 3 = .bool b ∧ St [] w0 [.blk g0_0 28 (opV h L n c), .vw L (flat mmV l)] w ∧ (k ≤ n) ∧ (b = true ↔ hdOk h n ∧ ∀ j, j < k → okI (l.getD j default).1 ∧ okI (l.getD j default).2)) ?_ ?_
    · exact ⟨_, 0, b0, rfl, (by first | rfl | go_num | exact congrArg (Value.int _) (by first | omega | (simp; done) | (simp; omega))), (by first | rfl | go_num | exact congrArg (Value.int _) (by first | omega | (simp; done) | (simp; omega))), hS, (by omega), (by first | exact ⟨fun hbb => ⟨(hb.1 hc0).1, fun j hj => (by rcases (by omega : j < k ∨ j = k) with h9 | rfl; exact (hb.1 hc0).2 j h9; exact ⟨hg5_7', of_decide_eq_true hbb⟩)⟩, fun hh => decide_eq_true (hh.2 k (by omega)).2⟩ | exact ⟨fun hbb => (by cases hbb), fun hh => absurd (hh.2 k (by omega)).1 hg5_7'⟩ | exact ⟨fun hh => ⟨hb0.1 hh, fun j hj => absurd hj (Nat.not_lt_zero j)⟩, fun hh => hb0.2 hh.1⟩)⟩
    · clear hS; intro mz g w hI
      obtain ⟨k, b, rfl, hs4, hs3, hS, hk, hb⟩ := hI
      refine fr_know (d := 4) hs4 ?_; clear hs4
      refine fr_know (d := 3) hs3 ?_; clear hs3
      refine wp_seq_k ?_; intro K6 hK6
      refine wp_seq_k ?_; intro K7 hK7
      refine wlit ?_
      refine wl_v (x_move (tmI rfl rfl)) ?_
      refine wl_v (x_fa 10 Try.underlying28 rfl rfl ts_26 (tmP rfl rfl)) ?_
      first
       | refine wl_v (x_load Try.underlying26 rfl (tmP rfl rfl) (cellB hS.ok 0 rfl rfl)) ?_
       | refine wl_v (x_load Try.underlying26 rfl (tmP rfl rfl) (cellB hS.ok 0 rfl (getm (by omega)))) ?_
      refine wl_v (x_len Try.underlying26 (tmS rfl rfl)) ?_
      refine wl_v (x_lss (tmI rfl rfl) (tmI rfl rfl)) ?_
      refine wl_v (x_move (tmB rfl rfl)) ?_
      refine gs_wl (tm (t := 44) rfl) (fun hg3_5 => ?_) (fun hg3_5 => ?_)
      · have hg3_5' := hg3_5; (try simp only [nrm] at hg3_5'); try (exfalso; first | with_reducible exact absurd hg3_5 Bool.false_ne_true | with_reducible exact absurd hg3_5.symm Bool.false_ne_true | omega | (simp at hg3_5; done))
        all_goals
         refine wl_gv (want_y rfl rfl rfl rfl (by rw [hg3_5]; rfl)) (x_move (tmB rfl rfl)) ?_
         refine wl_v (x_pickT (tmB rfl rfl) hg3_5 (tmB rfl rfl)) ?_
         refine wl_nil ?_
         refine then_n (hK7 _ _ ?_); clear hK7 K7
         refine cnd (tm rfl) (fun hc0 => ?_) (fun hc0 => ?_)
         · try (exfalso; first | with_reducible exact absurd hc0 Bool.false_ne_true | with_reducible exact absurd hc0.symm Bool.false_ne_true | (simp only [nrm] at hc0; omega) | (simp at hc0; done))
           all_goals
            try simp only [nrm] at hc0
            refine wp_skip ?_
            refine then_n (hK6 _ _ ?_); clear hK6 K6
            refine wp_seq_k ?_; intro K8 hK8
            refine wp_block ?_
            obtain ⟨b4, o4, rfl⟩ := view_some (viewV hS.ok 1 rfl) (by rw [hfl]; omega)
            refine wlit ?_
            refine wl_v (x_fa 10 Try.underlying28 rfl rfl ts_26 (tmP rfl rfl)) ?_
            first
             | refine wl_v (x_load Try.underlying26 rfl (tmP rfl rfl) (cellB hS.ok 0 rfl rfl)) ?_
             | refine wl_v (x_load Try.underlying26 rfl (tmP rfl rfl) (cellB hS.ok 0 rfl (getm (by omega)))) ?_
            refine wl_v (x_move (tmI rfl rfl)) ?_
            refine wl_v (x_ixs Try.underlying26 ts_65 (tmS rfl rfl) (tmI rfl rfl) (by omega)) ?_
            refine wl_v (x_fa 0 Try.underlying65 rfl rfl ts_3 (tmP rfl rfl)) ?_
            first
             | refine wl_v (x_load Try.underlying3 rfl (tmP rfl rfl) (cellV hS.ok 1 rfl rfl)) ?_
             | refine wl_v (x_load Try.underlying3 rfl (tmP rfl rfl) (cellV hS.ok 1 rfl (getm (by omega)))) ?_
             | refine wl_v (x_load Try.underlying3 rfl (tmP rfl rfl) (cellVs hS.ok 1 rfl (fun _ => rfl) rfl (by omega) rfl)) ?_
            refine wl_e rfl ?_; intro K hK
            refine ow_call Try.func25 rfl rfl (evs_cons (tmI rfl rfl) <| evs_nil) (small_c _ _) ?_
            rintro e w ⟨rfl, hk2⟩
            refine ⟨_, rfl, ?_⟩
            replace hS := hS.kept hk2
            clear hk2
            refine hK _ _ ?_; clear hK K
            refine wl_v (x_move (tmB rfl rfl)) ?_
            refine gs_wl (tm (t := 56) rfl) (fun hg5_7 => ?_) (fun hg5_7 => ?_)
            · have hg5_7' := hg5_7; (try simp only [nrm] at hg5_7'); try (exfalso; first | with_reducible exact absurd hg5_7 Bool.false_ne_true | with_reducible exact absurd hg5_7.symm Bool.false_ne_true | omega | (simp at hg5_7; done))
              all_goals
               refine wl_gv (want_y rfl rfl rfl rfl (by rw [hg5_7]; rfl)) (x_fa 10 Try.underlying28 rfl rfl ts_26 (tmP rfl rfl)) ?_
               first
                | refine wl_gv (want_y rfl rfl rfl rfl (by rw [hg5_7]; rfl)) (x_load Try.underlying26 rfl (tmP rfl rfl) (cellB hS.ok 0 rfl rfl)) ?_
                | refine wl_gv (want_y rfl rfl rfl rfl (by rw [hg5_7]; rfl)) (x_load Try.underlying26 rfl (tmP rfl rfl) (cellB hS.ok 0 rfl (getm (by omega)))) ?_
               refine wl_gv (want_y rfl rfl rfl rfl (by rw [hg5_7]; rfl)) (x_move (tmI rfl rfl)) ?_
               refine wl_gv (want_y rfl rfl rfl rfl (by rw [hg5_7]; rfl)) (x_ixs Try.underlying26 ts_65 (tmS rfl rfl) (tmI rfl rfl) (by omega)) ?_
               refine wl_gv (want_y rfl rfl rfl rfl (by rw [hg5_7]; rfl)) (x_fa 1 Try.underlying65 rfl rfl ts_3 (tmP rfl rfl)) ?_
               first
                | refine wl_gv (want_y rfl rfl rfl rfl (by rw [hg5_7]; rfl)) (x_load Try.underlying3 rfl (tmP rfl rfl) (cellV hS.ok 1 rfl rfl)) ?_
                | refine wl_gv (want_y rfl rfl rfl rfl (by rw [hg5_7]; rfl)) (x_load Try.underlying3 rfl (tmP rfl rfl) (cellV hS.ok 1 rfl (getm (by omega)))) ?_
                | refine wl_gv (want_y rfl rfl rfl rfl (by rw [hg5_7]; rfl)) (x_load Try.underlying3 rfl (tmP rfl rfl) (cellVs hS.ok 1 rfl (fun _ => rfl) rfl (by omega) rfl)) ?_
               refine wl_g (want_y rfl rfl rfl rfl (by rw [hg5_7]; rfl)) ?_; intro K hK
               refine ow_call Try.func25 rfl rfl (evs_cons (tmI rfl rfl) <| evs_nil) (small_c _ _) ?_
               rintro e w ⟨rfl, hk2⟩
               refine ⟨_, rfl, ?_⟩
               replace hS := hS.kept hk2
               clear hk2
               refine hK _ _ ?_; clear hK K
               refine wl_v (x_pickT (tmB rfl rfl) hg5_7 (tmB rfl rfl)) ?_
               refine wl_v (x_assign (tmB rfl rfl)) ?_
               refine wl_nil ?_
               refine inb_n ?_
               refine then_n (hK8 _ _ ?_); clear hK8 K8
               refine wlit ?_
               refine wl_v (x_move (tmI rfl rfl)) ?_
               first
                | refine wl_v (x_addN (tmI rfl rfl) (ev_cN 1) (fit_i64 (by omega))) ?_
                | refine wl_v (x_addI (tmI rfl rfl) (ev_cN 1) (IntWalk.i64_in _ (by omega))) ?_
                | refine wl_v (x_add (tmI rfl rfl) (ev_cN 1)) ?_
               refine wl_v (x_assign (tmI rfl rfl)) ?_
               refine wl_nil ?_
               exact then_n ⟨_, _, rfl, (by show _ < _; omega), (by repeat (first | exact agree_self | exact agree_refl | refine agree_upd rfl ?_ | refine agree_mix rfl ?_)), k + 1, _, rfl, (by first | rfl | go_num | exact congrArg (Value.int _) (by first | omega | (simp; done) | (simp; omega))), (by first | rfl | go_num | exact congrArg (Value.int _) (by first | omega | (simp; done) | (simp; omega))), hS, (by omega), (by first | exact ⟨fun hbb => ⟨(hb.1 hc0).1, fun j hj => (by rcases (by omega : j < k ∨ j = k) with h9 | rfl; exact (hb.1 hc0).2 j h9; exact ⟨hg5_7', of_decide_eq_true hbb⟩)⟩, fun hh => decide_eq_true (hh.2 k (by omega)).2⟩ | exact ⟨fun hbb => (by cases hbb), fun hh => absurd (hh.2 k (by omega)).1 hg5_7'⟩ | exact ⟨fun hh => ⟨hb0.1 hh, fun j hj => absurd hj (Nat.not_lt_zero j)⟩, fun hh => hb0.2 hh.1⟩)⟩
            have hg5_7' := hg5_7; (try simp only [nrm] at hg5_7'); try (exfalso; first | with_reducible exact absurd hg5_7 Bool.false_ne_true | with_reducible exact absurd hg5_7.symm Bool.false_ne_true | omega | (simp at hg5_7; done))
            all_goals
             refine wl_s rfl (want_n rfl rfl rfl rfl (by rw [hg5_7]; rfl)) ?_
             refine wl_s rfl (want_n rfl rfl rfl rfl (by rw [hg5_7]; rfl)) ?_
             refine wl_s rfl (want_n rfl rfl rfl rfl (by rw [hg5_7]; rfl)) ?_
             refine wl_s rfl (want_n rfl rfl rfl rfl (by rw [hg5_7]; rfl)) ?_
             refine wl_s rfl (want_n rfl rfl rfl rfl (by rw [hg5_7]; rfl)) ?_
             refine wl_s rfl (want_n rfl rfl rfl rfl (by rw [hg5_7]; rfl)) ?_
             refine wl_s rfl (want_n rfl rfl rfl rfl (by rw [hg5_7]; rfl)) ?_
             refine wl_v (x_pickF (tmB rfl rfl) hg5_7 ev_c) ?_
             refine wl_v (x_assign (tmB rfl rfl)) ?_
             refine wl_nil ?_
             refine inb_n ?_
             refine then_n (hK8 _ _ ?_); clear hK8 K8
             refine wlit ?_
             refine wl_v (x_move (tmI rfl rfl)) ?_
             first
              | refine wl_v (x_addN (tmI rfl rfl) (ev_cN 1) (fit_i64 (by omega))) ?_
              | refine wl_v (x_addI (tmI rfl rfl) (ev_cN 1) (IntWalk.i64_in _ (by omega))) ?_
              | refine wl_v (x_add (tmI rfl rfl) (ev_cN 1)) ?_
             refine wl_v (x_assign (tmI rfl rfl)) ?_
             refine wl_nil ?_
             exact then_n ⟨_, _, rfl, (by show _ < _; omega), (by repeat (first | exact agree_self | exact agree_refl | refine agree_upd rfl ?_ | refine agree_mix rfl ?_)), k + 1, _, rfl, (by first | rfl | go_num | exact congrArg (Value.int _) (by first | omega | (simp; done) | (simp; omega))), (by first | rfl | go_num | exact congrArg (Value.int _) (by first | omega | (simp; done) | (simp; omega))), hS, (by omega), (by first | exact ⟨fun hbb => ⟨(hb.1 hc0).1, fun j hj => (by rcases (by omega : j < k ∨ j = k) with h9 | rfl; exact (hb.1 hc0).2 j h9; exact ⟨hg5_7', of_decide_eq_true hbb⟩)⟩, fun hh => decide_eq_true (hh.2 k (by omega)).2⟩ | exact ⟨fun hbb => (by cases hbb), fun hh => absurd (hh.2 k (by omega)).1 hg5_7'⟩ | exact ⟨fun hh => ⟨hb0.1 hh, fun j hj => absurd hj (Nat.not_lt_zero j)⟩, fun hh => hb0.2 hh.1⟩)⟩
         try (exfalso; first | with_reducible exact absurd hc0 Bool.false_ne_true | with_reducible exact absurd hc0.symm Bool.false_ne_true | (simp only [nrm] at hc0; omega) | (simp at hc0; done))
         all_goals
          try simp only [nrm] at hc0
          refine wp_exit ?_
          refine then_x ?_; clear hK6 K6
          refine then_x ?_
          refine inb_x ?_
          refine then_n (hK4 _ _ ?_); clear hK4 K4
          refine wp_seq_k ?_; intro K9 hK9
          refine wlit ?_
          refine wl_v (x_move (tmB rfl rfl)) ?_
          refine wl_v (x_assign (tmB rfl rfl)) ?_
          refine wl_nil ?_
          refine then_n (hK9 _ _ ?_); clear hK9 K9
          refine wp_ret ?_
          refine ret1 rfl (.tmp rfl (show _ = Value.bool _ from rfl)) ?_
          have hiff : okOp h l ↔ hdOk h n ∧ okMs l := by
            unfold okOp hdOk
            rw [hl]
            exact ⟨fun ⟨a, b, c, d⟩ => ⟨⟨b, c, d⟩, a⟩, fun ⟨⟨b, c, d⟩, a⟩ => ⟨a, b, c, d⟩⟩
          refine ⟨ret_bool ?_, hS.kp⟩
          rw [Bool.eq_iff_iff, decide_eq_true_iff, hiff]
          constructor
          · intro hbb
            have ho := hb.1 hbb
            first
              | exact ⟨ho.1, gall (p := fun q : Mm => okI q.1 ∧ okI q.2) hl fun j hj => ho.2 j (by omega)⟩
              | (rw [hc0] at hbb; cases hbb; done)
          · rintro ⟨o1, o2⟩
            exact hb.2 ⟨o1, fun j hj => o2 _ (gmem (by omega))⟩
      have hg3_5' := hg3_5; (try simp only [nrm] at hg3_5'); try (exfalso; first | with_reducible exact absurd hg3_5 Bool.false_ne_true | with_reducible exact absurd hg3_5.symm Bool.false_ne_true | omega | (simp at hg3_5; done))
      all_goals
       refine wl_s rfl (want_n rfl rfl rfl rfl (by rw [hg3_5]; rfl)) ?_
       refine wl_v (x_pickF (tmB rfl rfl) hg3_5 ev_c) ?_
       refine wl_nil ?_
       refine then_n (hK7 _ _ ?_); clear hK7 K7
       refine cnd_f (tmB rfl rfl) rfl ?_
       refine wp_exit ?_
       refine then_x ?_; clear hK6 K6
       refine then_x ?_
       refine inb_x ?_
       refine then_n (hK4 _ _ ?_); clear hK4 K4
       refine wp_seq_k ?_; intro K10 hK10
       refine wlit ?_
       refine wl_v (x_move (tmB rfl rfl)) ?_
       refine wl_v (x_assign (tmB rfl rfl)) ?_
       refine wl_nil ?_
       refine then_n (hK10 _ _ ?_); clear hK10 K10
       refine wp_ret ?_
       refine ret1 rfl (.tmp rfl (show _ = Value.bool _ from rfl)) ?_
       have hiff : okOp h l ↔ hdOk h n ∧ okMs l := by
         unfold okOp hdOk
         rw [hl]
         exact ⟨fun ⟨a, b, c, d⟩ => ⟨⟨b, c, d⟩, a⟩, fun ⟨⟨b, c, d⟩, a⟩ => ⟨a, b, c, d⟩⟩
       refine ⟨ret_bool ?_, hS.kp⟩
       rw [Bool.eq_iff_iff, decide_eq_true_iff, hiff]
       constructor
       · intro hbb
         have ho := hb.1 hbb
         first
           | exact ⟨ho.1, gall (p := fun q : Mm => okI q.1 ∧ okI q.2) hl fun j hj => ho.2 j (by omega)⟩
           | (rw [hc0] at hbb; cases hbb; done)
       · rintro ⟨o1, o2⟩
         exact hb.2 ⟨o1, fun j hj => o2 _ (gmem (by omega))⟩
end Go.Proofs.Ytoaodcbfehfdoaa
