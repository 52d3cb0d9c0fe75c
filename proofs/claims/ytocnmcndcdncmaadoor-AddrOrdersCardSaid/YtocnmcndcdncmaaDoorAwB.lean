
/- addr's Parse of the chapter's example, by contract. Conditions: the library's variable MaxLen holds a number. -/
import Derived.Test.YtocnmcndcdncmaaDoorAwA
import Derived.Test.YtocnmcndcdncmaaDoorShf
namespace Go.Proofs.YtocnmcndcdncmaaDoor
open Go.RowKit
def MaxL (w : World) : Prop := ∃ m, w.cell? ⟨1, 0, none⟩ = some (.int .i64 m)
theorem MaxL.kp {w w' : World} (h : MaxL w) (k : Kp [] w w') : MaxL w' := by
  obtain ⟨m, hm⟩ := h
  refine ⟨m, ?_⟩
  have h1 : 1 < w.heap.size := by
    rcases Nat.lt_or_ge 1 w.heap.size with h1 | h1
    · exact h1
    · exfalso
      unfold World.cell? at hm
      rw [Array.getElem?_eq_none (by omega)] at hm
      simp at hm
  unfold World.cell? at hm ⊢
  rw [k.block 1 h1 (by simp)]
  exact hm
def S0 : ByteArray := ⟨#[49, 48, 46, 48, 46, 48, 46, 48, 49]⟩
def pS (k : Nat) : ByteArray := if k = 0 then ⟨#[49, 48]⟩ else if k = 3 then ⟨#[48, 49]⟩ else ⟨#[48]⟩
def pA : List Value := [.string (pS 0), .string (pS 1), .string (pS 2), .string (pS 3)]
theorem pA_get {k : Nat} (h : k ≤ 3) : pA[k]? = some (.string (pS k)) := by
  rcases (by omega : k = 0 ∨ k = 1 ∨ k = 2 ∨ k = 3) with rfl | rfl | rfl | rfl <;> rfl
theorem split_c (c : ByteArray) (n : Nat) (xs : List ByteArray) (w : World) (hm : MaxL w) (h1 : 1 ≤ c.size) (hn : Lib.countB S0 c + 1 = n) (hx : Lib.splitB c 0 (Lib.countB S0 c) S0 = xs) :
    Calls Tryd.prog 32 #[.string S0, .string c] w fun e w' => ∃ g, e = .returned (.slice (some ⟨g, 0, none⟩) n n) ∧ NewV w w' (some ⟨g, 0, none⟩) (xs.map Value.string) ∧ Kp [] w w' := by
  obtain ⟨m, hm⟩ := hm
  refine (Tryd.strings_Split S0 c m w (by decide) hm h1).mono ?_
  rintro e w' ⟨rfl, rfl⟩
  rw [hn, hx]
  refine ⟨w.heap.size, rfl, ⟨(Arr.new w 9 (xs.map Value.string)).view ?_, fun g hg => ?_⟩, Kp.alloc _ _⟩
  · exact (Arr.new w 9 (xs.map Value.string)).lt
  · cases xs with
    | nil => cases hg
    | cons a l => exact Nat.le_of_eq (Option.some.inj hg)
theorem split4 : Lib.countB S0 ⟨#[46]⟩ + 1 = 4 ∧ Lib.splitB ⟨#[46]⟩ 0 (Lib.countB S0 ⟨#[46]⟩) S0 = [pS 0, pS 1, pS 2, pS 3] := by decide +kernel
theorem split1 : Lib.countB S0 ⟨#[58]⟩ + 1 = 1 ∧ Lib.splitB ⟨#[58]⟩ 0 (Lib.countB S0 ⟨#[58]⟩) S0 = [S0] := by decide +kernel
def pN (k : Nat) : Nat := if k = 0 then 10 else 0
theorem numK_c (k : Nat) (z : Int) (w0 : World) (hk : k ≤ 3) (hz : z = 255) :
    Calls Tryd.prog 33 #[.string (pS k), .int .i64 10, .int .i64 z] w0 fun e w' => e = .returned (.tuple #[.int .i64 (pN k : Int), .bool (decide (k < 3))]) ∧ Kp [] w0 w' := by
  subst hz
  rcases (by omega : k = 0 ∨ k = 1 ∨ k = 2 ∨ k = 3) with rfl | rfl | rfl | rfl
  · refine (number_c (pS 0) 2 (fun i => if i = 0 then 1 else 0) (fun i => if i = 0 then 0 else if i = 1 then 1 else 10) w0 (str_ne [49, 48] (by unfold Bytes; simp) (by simp)) rfl (by omega) (by omega) (.inr (by simp)) (fun i hi => ?_) rfl (fun i hi => ?_)) <;> rcases (by omega : i = 0 ∨ i = 1) with rfl | rfl <;> first | exact ⟨by simp, rfl⟩ | exact ⟨by simp, by simp⟩
  · refine (number_c (pS 1) 1 (fun _ => 0) (fun _ => 0) w0 (str_ne [48] (by unfold Bytes; simp) (by simp)) rfl (by omega) (by omega) (.inl rfl) (fun i hi => ?_) rfl (fun i hi => ?_)) <;> obtain rfl : i = 0 := (by omega) <;> first | exact ⟨by simp, rfl⟩ | exact ⟨by simp, by simp⟩
  · refine (number_c (pS 2) 1 (fun _ => 0) (fun _ => 0) w0 (str_ne [48] (by unfold Bytes; simp) (by simp)) rfl (by omega) (by omega) (.inl rfl) (fun i hi => ?_) rfl (fun i hi => ?_)) <;> obtain rfl : i = 0 := (by omega) <;> first | exact ⟨by simp, rfl⟩ | exact ⟨by simp, by simp⟩
  · exact number_no w0
set_option maxRecDepth 100000 in
set_option maxHeartbeats 4000000 in
theorem numbers_a (w0 : World) (hm : MaxL w0) :
    Calls Tryd.prog 23 #[.string S0, .string ⟨#[46]⟩, .int .i64 10, .int .i64 1, .int .i64 4] w0 fun e w' => e = .returned (.slice none 0 0) ∧ Kp [] w0 w' := by
  have hS := St.sv w0
  refine ent (n := 49) Tryd.func23 rfl rfl ?_
  refine wp_seq_k ?_; intro K1 hK1
  refine wlit ?_
  refine wl_v (x_assign ev_c) ?_
  refine wl_nil ?_
  refine then_n (hK1 _ _ ?_); clear hK1 K1
  refine wp_seq_k ?_; intro K2 hK2
  refine wlit ?_
  refine wl_v (x_move (tmG rfl rfl)) ?_
  refine wl_v (x_move (tmG rfl rfl)) ?_
  refine wl_e rfl ?_; intro K hK
  refine ow_call Tryd.func32 rfl rfl (evs_cons (tmG rfl rfl) <| evs_cons (tmG rfl rfl) <| evs_nil) (split_c ⟨#[46]⟩ 4 [pS 0, pS 1, pS 2, pS 3] _ (hm.kp hS.kp) (by decide) split4.1 split4.2) ?_
  rintro e w ⟨g1, rfl, hn, hk⟩
  refine ⟨_, rfl, ?_⟩
  replace hS := hS.addn hk hn -- +vp
  clear hk hn
  refine hK _ _ ?_; clear hK K
  refine wl_v (x_assign (tmS rfl rfl)) ?_
  refine wl_nil ?_
  refine then_n (hK2 _ _ ?_); clear hK2 K2
  refine wp_seq_k ?_; intro K3 hK3
  refine wp_seq_k ?_; intro K4 hK4
  refine wlit ?_
  refine wl_v (x_move (tmS rfl rfl)) ?_
  refine wl_v (x_len Tryd.underlying54 (tmS rfl rfl)) ?_
  refine wl_v (x_move (tmI rfl rfl)) ?_
  refine wl_v (x_neq (tmI rfl rfl) (tmI rfl rfl)) ?_
  refine wl_nil ?_
  refine then_n (hK4 _ _ ?_); clear hK4 K4
  refine cnd (tm rfl) (fun hc0 => ?_) (fun hc0 => ?_)
  · exfalso
    exact absurd hc0 (by decide)
  try (exfalso; first | with_reducible exact absurd hc0 Bool.false_ne_true | with_reducible exact absurd hc0.symm Bool.false_ne_true | (simp only [nrm] at hc0; omega) | (simp at hc0; done))
  all_goals
   try simp only [nrm] at hc0
   refine wp_skip ?_
   refine then_n (hK3 _ _ ?_); clear hK3 K3
   refine wp_seq_k ?_; intro K5 hK5
   refine wlit ?_
   refine wl_v (x_assign ev_c) ?_
   refine wl_nil ?_
   refine then_n (hK5 _ _ ?_); clear hK5 K5
   refine wp_seq_k ?_; intro K6 hK6
   refine wp_seq_k ?_; intro K7 hK7
   refine wlit ?_
   refine wl_v (x_move (tmS rfl rfl)) ?_
   refine wl_v (x_len Tryd.underlying54 (tmS rfl rfl)) ?_
   refine wl_v (x_move (ev_cN 0)) ?_
   refine wl_nil ?_
   refine then_n (hK7 _ _ ?_); clear hK7 K7
   refine wp_block ?_
   refine lp [10, 12, 14, 15, 16, 26, 27, 28, 29, 30, 31, 32, 33, 34, 35, 36, 37, 38, 39, 40, 41, 42, 43, 44, 45, 46, 47] (fun mz g w => ∃ (k : Nat), ∃ (A : Option Addr), ∃ (c : Nat), ∃ (l : List Nat), mz = 4 - k ∧ g 26 = .int .i64 (k : Int) ∧ g 12 = .slice A k c ∧ St [] w0 [.vw A (l.map u8v), .vw (some ⟨g1, 0, none⟩) pA] w ∧ (k ≤ 3) ∧ (l.length = k)) ?_ ?_
   · exact ⟨_, 0, none, 0, [], rfl, (by first | rfl | go_num | exact congrArg (Value.int _) (by first | omega | (simp; done) | (simp; omega))), (by first | rfl | go_num | exact congrArg (Value.int _) (by first | omega | (simp; done) | (simp; omega))), (hS.addn (A := none) (xs := []) (Kp.refl [] _) (NewV.nil_ _ _ _)), (by omega), (by first | rfl | omega | (simp [be_length]; omega))⟩
   · clear hS; intro mz g w hI
     obtain ⟨k, A, c, l, rfl, hs26, hs12, hS, hk, hl⟩ := hI
     refine fr_know (d := 26) hs26 ?_; clear hs26
     refine fr_know (d := 12) hs12 ?_; clear hs12
     refine wp_seq_k ?_; intro K8 hK8
     refine wlit ?_
     refine wl_v (x_lss (tmI rfl rfl) (tmI rfl rfl)) ?_
     refine wl_nil ?_
     refine then_n (hK8 _ _ ?_); clear hK8 K8
     refine wp_seq_k ?_; intro K9 hK9
     refine cnd (tm rfl) (fun hc1 => ?_) (fun hc1 => ?_)
     · try (exfalso; first | with_reducible exact absurd hc1 Bool.false_ne_true | with_reducible exact absurd hc1.symm Bool.false_ne_true | (simp only [nrm] at hc1; omega) | (simp at hc1; done))
       all_goals
        try simp only [nrm] at hc1
        refine wp_skip ?_
        refine then_n (hK9 _ _ ?_); clear hK9 K9
        refine wp_seq_k ?_; intro K10 hK10
        refine wp_block ?_
        refine wp_seq_k ?_; intro K11 hK11
        refine wlit ?_
        refine wl_v (x_ixs1 Tryd.underlying54 ts_9 (tmS rfl rfl) (tmI rfl rfl) (by omega)) ?_
        refine wl_v (x_load (v := .string (pS k)) Tryd.underlying9 rfl (tmP rfl rfl) (cellV hS.ok 1 rfl (by first | exact pA_get hk | (rw [Nat.zero_add]; exact pA_get hk)))) ?_
        refine wl_v (x_assign (tmG rfl rfl)) ?_
        refine wl_nil ?_
        refine then_n (hK11 _ _ ?_); clear hK11 K11
        refine wp_seq_k ?_; intro K12 hK12
        refine wlit ?_
        have hpN : pN k ≤ 10 := by unfold pN; split <;> omega
        refine wl_v (x_move (tmG rfl rfl)) ?_
        refine wl_v (x_move (tmI rfl rfl)) ?_
        refine wl_v (x_move (tmI rfl rfl)) ?_
        refine wl_v (x_mulN (m := 8) (n := 1) (ev_cN 8) (tmI rfl rfl) (fit_i64 (by decide))) ?_
        refine wl_v (x_shlN (m := 1) (n := 8 * 1) (ev_cN 1) (tmI rfl rfl) (by decide) (fit_i64 (by decide))) ?_
        refine wl_v (x_subN (m := 1 * 2 ^ (8 * 1)) (n := 1) (tmI rfl rfl) (ev_cN 1) (fit_i64 (by decide)) (by decide)) ?_
        refine wl_e rfl ?_; intro K hK
        refine ow_call Tryd.func33 rfl rfl (evs_cons (tmG rfl rfl) <| evs_cons (tmI rfl rfl) <| evs_cons (tmI rfl rfl) <| evs_nil) (numK_c k ((1 * 2 ^ (8 * 1) - 1 : Nat) : Int) _ hk (by decide)) ?_
        rintro e w ⟨rfl, hk2⟩
        refine ⟨_, rfl, ?_⟩
        replace hS := hS.kept hk2
        clear hk2
        refine hK _ _ ?_; clear hK K
        refine wl_v (x_move (tmT rfl rfl)) ?_
        refine wl_v (x_ext (tmT rfl rfl) rfl) ?_
        refine wl_v (x_ext (tmT rfl rfl) rfl) ?_
        refine wl_v (x_assign (tmI rfl rfl)) ?_
        refine wl_v (x_assign (tmB rfl rfl)) ?_
        refine wl_nil ?_
        refine then_n (hK12 _ _ ?_); clear hK12 K12
        refine wp_seq_k ?_; intro K13 hK13
        refine wp_seq_k ?_; intro K14 hK14
        refine wlit ?_
        refine wl_v (x_move (tmB rfl rfl)) ?_
        refine wl_v (x_not (tmB rfl rfl)) ?_
        refine wl_nil ?_
        refine then_n (hK14 _ _ ?_); clear hK14 K14
        refine cnd (tm rfl) (fun hc2 => ?_) (fun hc2 => ?_)
        · try (exfalso; first | with_reducible exact absurd hc2 Bool.false_ne_true | with_reducible exact absurd hc2.symm Bool.false_ne_true | (simp only [nrm] at hc2; omega) | (simp at hc2; done))
          all_goals
           try simp only [nrm] at hc2
           refine wp_seq_k ?_; intro K15 hK15
           refine wlit ?_
           refine wl_v (x_assign ev_c) ?_
           refine wl_nil ?_
           refine then_n (hK15 _ _ ?_); clear hK15 K15
           refine wp_ret ?_
           refine then_r ?_
           refine inb_r ?_
           refine then_r ?_
           refine then_r ?_
           refine inb_r ?_
           refine then_r ?_
           refine ret1 rfl (.tmp rfl (show _ = Value.slice _ _ _ from rfl)) ?_
           first
             | exact ⟨rfl, hS.kp⟩
             | (exfalso; omega)
        try (exfalso; first | with_reducible exact absurd hc2 Bool.false_ne_true | with_reducible exact absurd hc2.symm Bool.false_ne_true | (simp only [nrm] at hc2; omega) | (simp at hc2; done))
        all_goals
         try simp only [nrm] at hc2
         refine wp_skip ?_
         refine then_n (hK13 _ _ ?_); clear hK13 K13
         refine wlit ?_
         refine wl_v (x_move (tmS rfl rfl)) ?_
         refine wl_v (x_move (tmI rfl rfl)) ?_
         first
          | refine wl_v (x_convN Tryd.underlying3 Tryd.underlying22 (tmI rfl rfl) (fit_u64 (by omega))) ?_
          | refine wl_v (x_convU Tryd.underlying3 Tryd.underlying22 (tmI rfl rfl) rfl) ?_
          | refine wl_v (x_conv Tryd.underlying3 Tryd.underlying22 (tmI rfl rfl)) ?_
         refine wl_v (x_move (tmI rfl rfl)) ?_
         refine wl_e rfl ?_; intro K hK
         refine ow_call Tryd.func18 rfl rfl (evs_cons (tmS rfl rfl) <| evs_cons (tmI rfl rfl) <| evs_cons (tmI rfl rfl) <| evs_nil) (put_c k A c l (pN k) 1 _ (viewV hS.ok 0 rfl) hl (by omega) (by unfold pN; split <;> omega) (by omega)) ?_
         rintro e w ⟨g2, rfl, hn, hk2⟩
         refine ⟨_, rfl, ?_⟩
         replace hS := (hS.addn hk2 (New.view hn)).pick [0, 2] rfl rfl --ents vb,vp
         clear hk2 hn
         try replace hS := St.nm (M' := [.vw _ _, .vw _ _]) hS rfl
         refine hK _ _ ?_; clear hK K
         refine wl_v (x_assign (tmS rfl rfl)) ?_
         refine wl_nil ?_
         refine inb_n ?_
         refine then_n (hK10 _ _ ?_); clear hK10 K10
         refine wlit ?_
         first
          | refine wl_v (x_addN (tmI rfl rfl) (ev_cN 1) (fit_i64 (by omega))) ?_
          | refine wl_v (x_addI (tmI rfl rfl) (ev_cN 1) (IntWalk.i64_in _ (by omega))) ?_
          | refine wl_v (x_add (tmI rfl rfl) (ev_cN 1)) ?_
         refine wl_v (x_move (tmI rfl rfl)) ?_
         refine wl_nil ?_
         exact then_n ⟨_, _, rfl, (by show _ < _; omega), (by repeat (first | exact agree_self | exact agree_refl | refine agree_upd rfl ?_ | refine agree_mix rfl ?_)), k + 1, some ⟨g2, 0, none⟩, k + 1, l ++ be (pN k) 1, rfl, (by first | rfl | go_num | exact congrArg (Value.int _) (by first | omega | (simp; done) | (simp; omega))), (by first | rfl | go_num | exact congrArg (Value.int _) (by first | omega | (simp; done) | (simp; omega))), hS, (by omega), (by first | rfl | omega | (simp [be_length]; omega))⟩
     try (exfalso; first | with_reducible exact absurd hc1 Bool.false_ne_true | with_reducible exact absurd hc1.symm Bool.false_ne_true | (simp only [nrm] at hc1; omega) | (simp at hc1; done))
     all_goals
      try simp only [nrm] at hc1
      refine wp_exit ?_
      refine then_x ?_; clear hK9 K9
      refine then_x ?_
      refine inb_x ?_
      refine then_n (hK6 _ _ ?_); clear hK6 K6
      refine wp_seq_k ?_; intro K16 hK16
      refine wlit ?_
      refine wl_v (x_move (tmS rfl rfl)) ?_
      refine wl_v (x_assign (tmS rfl rfl)) ?_
      refine wl_nil ?_
      refine then_n (hK16 _ _ ?_); clear hK16 K16
      refine wp_ret ?_
      refine ret1 rfl (.tmp rfl (show _ = Value.slice _ _ _ from rfl)) ?_
      first
        | exact ⟨rfl, hS.kp⟩
        | (exfalso; omega)
set_option maxRecDepth 100000 in
set_option maxHeartbeats 4000000 in
theorem numbers_b (w0 : World) (hm : MaxL w0) :
    Calls Tryd.prog 23 #[.string S0, .string ⟨#[58]⟩, .int .i64 16, .int .i64 2, .int .i64 8] w0 fun e w' => e = .returned (.slice none 0 0) ∧ Kp [] w0 w' := by
  have hS := St.sv w0
  refine ent (n := 49) Tryd.func23 rfl rfl ?_
  refine wp_seq_k ?_; intro K1 hK1
  refine wlit ?_
  refine wl_v (x_assign ev_c) ?_
  refine wl_nil ?_
  refine then_n (hK1 _ _ ?_); clear hK1 K1
  refine wp_seq_k ?_; intro K2 hK2
  refine wlit ?_
  refine wl_v (x_move (tmG rfl rfl)) ?_
  refine wl_v (x_move (tmG rfl rfl)) ?_
  refine wl_e rfl ?_; intro K hK
  refine ow_call Tryd.func32 rfl rfl (evs_cons (tmG rfl rfl) <| evs_cons (tmG rfl rfl) <| evs_nil) (split_c ⟨#[58]⟩ 1 [S0] _ (hm.kp hS.kp) (by decide) split1.1 split1.2) ?_
  rintro e w ⟨g1, rfl, hn, hk⟩
  refine ⟨_, rfl, ?_⟩
  replace hS := hS.addn hk hn -- +vp
  clear hk hn
  refine hK _ _ ?_; clear hK K
  refine wl_v (x_assign (tmS rfl rfl)) ?_
  refine wl_nil ?_
  refine then_n (hK2 _ _ ?_); clear hK2 K2
  refine wp_seq_k ?_; intro K3 hK3
  refine wp_seq_k ?_; intro K4 hK4
  refine wlit ?_
  refine wl_v (x_move (tmS rfl rfl)) ?_
  refine wl_v (x_len Tryd.underlying54 (tmS rfl rfl)) ?_
  refine wl_v (x_move (tmI rfl rfl)) ?_
  refine wl_v (x_neq (tmI rfl rfl) (tmI rfl rfl)) ?_
  refine wl_nil ?_
  refine then_n (hK4 _ _ ?_); clear hK4 K4
  refine cnds (tm rfl) (fun hc0 => ?_) (fun hc0 => ?_)
  · exfalso
    exact absurd hc0 (by decide)
  try (exfalso; first | with_reducible exact absurd hc0 Bool.false_ne_true | with_reducible exact absurd hc0.symm Bool.false_ne_true | (simp only [nrm] at hc0; omega) | (simp at hc0; done))
  all_goals
   try simp only [nrm] at hc0
   refine wp_seq_k ?_; intro K5 hK5
   refine wlit ?_
   refine wl_v (x_assign ev_c) ?_
   refine wl_nil ?_
   refine then_n (hK5 _ _ ?_); clear hK5 K5
   refine wp_ret ?_
   refine then_r ?_
   refine ret1 rfl (.tmp rfl (show _ = Value.slice _ _ _ from rfl)) ?_
   exact ⟨rfl, hS.kp⟩
set_option maxRecDepth 100000 in
set_option maxHeartbeats 4000000 in
theorem of_none (w0 : World) :
    Calls Tryd.prog 24 #[.slice none 0 0] w0 fun e w' => e = .returned (.tuple #[.agg (Ad.V ⟨false, 0, 0⟩).toArray, .int .i64 20]) ∧ Kp [] w0 w' := by
  have hS := (St.sv w0).vcons rfl (View.nil_ (A := none) (B := w0.heap.size) (w := w0))
  refine ent (n := 24) Tryd.func24 rfl rfl ?_
  refine wp_seq_k ?_; intro K1 hK1
  refine wlit ?_
  refine wl_e rfl ?_; intro K hK
  refine ow_alloc hS tz_24 rfl ?_
  clear hS; intro g0_0 w hg0_0 hS
  refine hK _ _ ?_; clear hK K
  refine wl_v (x_assign (ev_cN 0)) ?_
  refine wl_nil ?_
  refine then_n (hK1 _ _ ?_); clear hK1 K1
  refine wp_seq_k ?_; intro K2 hK2
  refine wlit ?_
  refine wl_v (x_move (tmS rfl rfl)) ?_
  refine wl_e rfl ?_; intro K hK
  refine ow_call Tryd.func25 rfl rfl (evs_cons (tmS rfl rfl) <| evs_nil) (read_c 0 none 0 [] _ (viewV hS.ok 1 rfl) rfl (by omega)) ?_
  rintro e w ⟨gr, A0, rfl, hS2⟩
  refine ⟨_, rfl, ?_⟩
  replace hS := hS.adds hS2 rfl -- +gr,rowb
  clear hS2
  refine hK _ _ ?_; clear hK K
  refine wl_v (x_assign (tmP rfl rfl)) ?_
  refine wl_nil ?_
  refine then_n (hK2 _ _ ?_); clear hK2 K2
  refine wp_seq_k ?_; intro K3 hK3
  refine wp_seq_k ?_; intro K4 hK4
  refine wlit ?_
  refine wl_v (x_move (tmS rfl rfl)) ?_
  refine wl_v (x_len Tryd.underlying33 (tmS rfl rfl)) ?_
  refine wl_nil ?_
  refine then_n (hK4 _ _ ?_); clear hK4 K4
  refine wp_block ?_
  refine wp_seq_k ?_; intro K5 hK5
  refine wlit ?_
  refine wl_v (x_eql (tmI rfl rfl) (ev_cN 4)) ?_
  refine wl_v (x_assign (tmB rfl rfl)) ?_
  refine wl_nil ?_
  refine then_n (hK5 _ _ ?_); clear hK5 K5
  refine cnd (tm rfl) (fun hc0 => ?_) (fun hc0 => ?_)
  · exfalso
    exact absurd hc0 (by decide)
  try (exfalso; first | with_reducible exact absurd hc0 Bool.false_ne_true | with_reducible exact absurd hc0.symm Bool.false_ne_true | (simp only [nrm] at hc0; omega) | (simp at hc0; done))
  all_goals
   try simp only [nrm] at hc0
   refine wp_seq_k ?_; intro K6 hK6
   refine wlit ?_
   refine wl_v (x_eql (tmI rfl rfl) (ev_cN 16)) ?_
   refine wl_v (x_assign (tmB rfl rfl)) ?_
   refine wl_nil ?_
   refine then_n (hK6 _ _ ?_); clear hK6 K6
   refine cnd (tm rfl) (fun hc1 => ?_) (fun hc1 => ?_)
   · exfalso
     exact absurd hc1 (by decide)
   try (exfalso; first | with_reducible exact absurd hc1 Bool.false_ne_true | with_reducible exact absurd hc1.symm Bool.false_ne_true | (simp only [nrm] at hc1; omega) | (simp at hc1; done))
   all_goals
    try simp only [nrm] at hc1
    refine wp_skip ?_
    refine inb_n ?_
    refine then_n (hK3 _ _ ?_); clear hK3 K3
    refine wp_seq_k ?_; intro K7 hK7
    refine wlit ?_
    refine wl_v (x_build (bc_skip (.bool false) <| bc_skip (.int .u64 0) <| bc_skip (.int .u64 0) <| bc_nil) (by kernel_rfl)) ?_
    refine wl_e rfl ?_; intro K hK
    refine ow_storeA hS 2 rfl ts_24 (tmP rfl rfl) (tmA rfl rfl) rfl rfl rfl ?_
    clear hS; intro w hS
    try replace hS := St.nm (M' := [_, .row _ _ _ _ _, .blk _ _ [_, _, _], .vw _ _]) hS rfl
    refine hK _ _ ?_; clear hK K
    refine wl_v (x_assign (ev_cN 20)) ?_
    refine wl_nil ?_
    refine then_n (hK7 _ _ ?_); clear hK7 K7
    refine wp_ret ?_
    refine ret2 rfl (.cell rfl rfl (load_rowB (cs := [_, _, _]) hS.ok 2 rfl Tryd.underlying24 rfl ts_24 rfl)) (.tmp rfl (show _ = Value.int _ _ from rfl)) ?_
    exact ⟨rfl, hS.kp⟩
set_option maxRecDepth 100000 in
set_option maxHeartbeats 4000000 in
theorem parse_ex (w0 : World) (hm : MaxL w0) :
    Calls Tryd.prog 14 #[.string S0] w0 fun e w' => e = .returned (.tuple #[.agg (Ad.V ⟨false, 0, 0⟩).toArray, .int .i64 21]) ∧ Kp [] w0 w' := by
  have hS := St.sv w0
  refine ent (n := 23) Tryd.func14 rfl rfl ?_
  refine wp_seq_k ?_; intro K1 hK1
  refine wlit ?_
  refine wl_e rfl ?_; intro K hK
  refine ow_alloc hS tz_24 rfl ?_
  clear hS; intro g0_0 w hg0_0 hS
  refine hK _ _ ?_; clear hK K
  refine wl_v (x_assign (ev_cN 0)) ?_
  refine wl_nil ?_
  refine then_n (hK1 _ _ ?_); clear hK1 K1
  refine wp_seq_k ?_; intro K2 hK2
  refine wlit ?_
  refine wl_v (x_move (tmG rfl rfl)) ?_
  refine wl_e rfl ?_; intro K hK
  refine ow_call Tryd.func23 rfl rfl (evs_cons (tmG rfl rfl) <| evs_cons ev_c <| evs_cons (ev_cN 10) <| evs_cons (ev_cN 1) <| evs_cons (ev_cN 4) <| evs_nil) (numbers_a _ (hm.kp hS.kp)) ?_
  rintro e w ⟨rfl, hk⟩
  refine ⟨_, rfl, ?_⟩
  replace hS := hS.kept hk
  clear hk
  refine hK _ _ ?_; clear hK K
  refine wl_v (x_assign (tmS rfl rfl)) ?_
  refine wl_nil ?_
  refine then_n (hK2 _ _ ?_); clear hK2 K2
  refine wp_seq_k ?_; intro K3 hK3
  refine wp_seq_k ?_; intro K4 hK4
  refine wlit ?_
  refine wl_v (x_move (tmS rfl rfl)) ?_
  refine wl_v (x_len Tryd.underlying33 (tmS rfl rfl)) ?_
  refine wl_v (x_eql (tmI rfl rfl) (ev_cN 0)) ?_
  refine wl_nil ?_
  refine then_n (hK4 _ _ ?_); clear hK4 K4
  refine cnds (tm rfl) (fun hc0 => ?_) (fun hc0 => ?_)
  · exfalso
    exact absurd hc0 (by decide)
  try (exfalso; first | with_reducible exact absurd hc0 Bool.false_ne_true | with_reducible exact absurd hc0.symm Bool.false_ne_true | (simp only [nrm] at hc0; omega) | (simp at hc0; done))
  all_goals
   try simp only [nrm] at hc0
   refine wlit ?_
   refine wl_v (x_move (tmG rfl rfl)) ?_
   refine wl_e rfl ?_; intro K hK
   refine ow_call Tryd.func23 rfl rfl (evs_cons (tmG rfl rfl) <| evs_cons ev_c <| evs_cons (ev_cN 16) <| evs_cons (ev_cN 2) <| evs_cons (ev_cN 8) <| evs_nil) (numbers_b _ (hm.kp hS.kp)) ?_
   rintro e w ⟨rfl, hk⟩
   refine ⟨_, rfl, ?_⟩
   replace hS := hS.kept hk
   clear hk
   refine hK _ _ ?_; clear hK K
   refine wl_v (x_assign (tmS rfl rfl)) ?_
   refine wl_nil ?_
   refine then_n (hK3 _ _ ?_); clear hK3 K3
   refine wp_seq_k ?_; intro K5 hK5
   refine wlit ?_
   refine wl_v (x_move (tmS rfl rfl)) ?_
   refine wl_e rfl ?_; intro K hK
   refine ow_call Tryd.func24 rfl rfl (evs_cons (tmS rfl rfl) <| evs_nil) (of_none _) ?_
   rintro e w ⟨rfl, hk⟩
   refine ⟨_, rfl, ?_⟩
   replace hS := hS.kept hk
   clear hk
   refine hK _ _ ?_; clear hK K
   refine wl_v (x_move (tmT rfl rfl)) ?_
   refine wl_v (x_ext (tmT rfl rfl) rfl) ?_
   refine wl_v (x_ext (tmT rfl rfl) rfl) ?_
   refine wl_e rfl ?_; intro K hK
   refine ow_alloc hS tz_24 rfl ?_
   clear hS; intro g4_5 w hg4_5 hS
   refine hK _ _ ?_; clear hK K
   refine wl_e rfl ?_; intro K hK
   refine ow_storeA hS 0 rfl ts_24 (tmP rfl rfl) (tmA rfl rfl) rfl rfl rfl ?_
   clear hS; intro w hS
   try replace hS := St.nm (M' := [.blk _ _ [_, _, _], .blk _ _ [_, _, _], _]) hS rfl
   refine hK _ _ ?_; clear hK K
   refine wl_v (x_assign (tmI rfl rfl)) ?_
   refine wl_nil ?_
   refine then_n (hK5 _ _ ?_); clear hK5 K5
   refine wp_seq_k ?_; intro K6 hK6
   refine wp_seq_k ?_; intro K7 hK7
   refine wlit ?_
   refine wl_v (x_move (tmI rfl rfl)) ?_
   refine wl_v (x_neq (tmI rfl rfl) (ev_cN 0)) ?_
   refine wl_nil ?_
   refine then_n (hK7 _ _ ?_); clear hK7 K7
   refine cnds (tm rfl) (fun hc1 => ?_) (fun hc1 => ?_)
   · exfalso
     exact absurd hc1 (by decide)
   try (exfalso; first | with_reducible exact absurd hc1 Bool.false_ne_true | with_reducible exact absurd hc1.symm Bool.false_ne_true | (simp only [nrm] at hc1; omega) | (simp at hc1; done))
   all_goals
    try simp only [nrm] at hc1
    refine wp_seq_k ?_; intro K8 hK8
    refine wlit ?_
    refine wl_v (x_build (bc_skip (.bool false) <| bc_skip (.int .u64 0) <| bc_skip (.int .u64 0) <| bc_nil) (by kernel_rfl)) ?_
    refine wl_e rfl ?_; intro K hK
    refine ow_storeA hS 1 rfl ts_24 (tmP rfl rfl) (tmA rfl rfl) rfl rfl rfl ?_
    clear hS; intro w hS
    try replace hS := St.nm (M' := [.blk _ _ [_, _, _], .blk _ _ [_, _, _], _]) hS rfl
    refine hK _ _ ?_; clear hK K
    refine wl_v (x_assign (ev_cN 21)) ?_
    refine wl_nil ?_
    refine then_n (hK8 _ _ ?_); clear hK8 K8
    refine wp_ret ?_
    refine then_r ?_
    refine ret2 rfl (.cell rfl rfl (load_rowB (cs := [_, _, _]) hS.ok 1 rfl Tryd.underlying24 rfl ts_24 rfl)) (.tmp rfl (show _ = Value.int _ _ from rfl)) ?_
    exact ⟨rfl, hS.kp⟩
end Go.Proofs.YtocnmcndcdncmaaDoor
