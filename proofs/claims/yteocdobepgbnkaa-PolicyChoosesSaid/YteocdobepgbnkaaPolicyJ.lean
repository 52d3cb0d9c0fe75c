
/- The reference's Choose by all ways, by contract, and that both choose the same. Conditions: none but bounds. -/
import Derived.Test.YteocdobepgbnkaaPolicyI
namespace Go.Proofs.Yteocdobepgbnkaa
open Go.RowKit
namespace PolicyF
/-- What the reference chooses, and what it remembers then. -/
def ChooseR (way : Int) (l : List Cn) (n a b : Nat) (nx : Int) (ks : List Cr) (nx' : Int) (ks' : List Cr) (z : Int) : Prop :=
  (way = 1 ∧ ks' = ks ∧ ((n = 0 ∧ nx' = nx ∧ z = -1) ∨ ∃ i : Nat, z = (i : Int) ∧ FirstFrom l n nx i ∧ nx' = (l.getD i default).slot + 1)) ∨
  (way = 2 ∧ nx' = nx ∧ ks' = nextK (wfT l n) ks ∧ ((¬ 0 < (wfT l n).length ∧ z = -1) ∨ (0 < (wfT l n).length ∧ ∃ i : Nat, z = (i : Int) ∧ i < n ∧ l.getD i default = toldC (wfT l n) ks))) ∨
  ((way = 3 ∨ way = 4) ∧ nx' = nx ∧ ks' = ks ∧ PickI way l n a b z) ∨
  ((way ≠ 1 ∧ way ≠ 2 ∧ way ≠ 3 ∧ way ≠ 4) ∧ nx' = nx ∧ ks' = ks ∧ z = -1)
theorem told_in {l : List Cn} {n : Nat} {ks : List Cr} (h : 0 < (wfT l n).length) : ∃ j, j < n ∧ l.getD j default = toldC (wfT l n) ks ∧ 0 < (toldC (wfT l n) ks).weight := by
  have hb := besP_lt (startP (wfT l n) ks) (wfT l n).length h
  obtain ⟨j, hj, e, hp⟩ := wf_mem l n _ hb
  have et : toldC (wfT l n) ks = (wfT l n).getD (besP (startP (wfT l n) ks) (wfT l n).length) default := by unfold toldC; rw [if_pos h]
  refine ⟨j, hj, by rw [et, e], by rw [et, e]; exact hp⟩
theorem told_no {l : List Cn} {n : Nat} {ks : List Cr} (h : ¬ 0 < (wfT l n).length) : toldC (wfT l n) ks = default := by unfold toldC; rw [if_neg h]
theorem choose_same {way : Int} {l : List Cn} {n a b : Nat} {nx nx' nx'' : Int} {ks ks' ks'' : List Cr} {x : Cn} {ok : Bool} {z : Int} (h : ChooseP way l n a b nx ks nx' ks' x ok) (g : ChooseR way l n a b nx ks nx'' ks'' z) :
    nx' = nx'' ∧ ks' = ks'' ∧ ((ok = true ∧ ∃ i : Nat, z = (i : Int) ∧ i < n ∧ l.getD i default = x ∧ FitsP way l n a b x) ∨ (ok = false ∧ z = -1 ∧ x = default)) := by
  rcases h with ⟨hw, rfl, h⟩ | ⟨hw, rfl, rfl, rfl, rfl⟩ | ⟨hw, rfl, rfl, h⟩ | ⟨hw, rfl, rfl, h⟩ | ⟨hw, rfl, rfl, rfl, rfl⟩
  · rcases g with ⟨_, rfl, g⟩ | ⟨hw', -⟩ | ⟨hw', -⟩ | ⟨hw', -⟩
    · rcases h with ⟨h0, rfl, i, hi, rfl, rfl⟩ | ⟨h0, rfl, rfl, rfl⟩
      · rcases g with ⟨g0, _⟩ | ⟨k, rfl, hk, rfl⟩
        · omega
        · obtain rfl := hi.uniq hk
          exact ⟨rfl, rfl, .inl ⟨rfl, i, rfl, hi.1, rfl, .inl ⟨hw, i, hi.1, rfl⟩⟩⟩
      · rcases g with ⟨_, rfl, rfl⟩ | ⟨k, _, hk, _⟩
        · exact ⟨rfl, rfl, .inr ⟨rfl, rfl, rfl⟩⟩
        · have := hk.1; omega
    all_goals first | omega | (clear h; omega)
  · rcases g with ⟨hw', -⟩ | ⟨_, rfl, rfl, g⟩ | ⟨hw', -⟩ | ⟨hw', -⟩
    · omega
    · refine ⟨rfl, rfl, ?_⟩
      rcases g with ⟨g0, rfl⟩ | ⟨g0, i, rfl, hi, e⟩
      · exact .inr ⟨decide_eq_false g0, rfl, told_no g0⟩
      · obtain ⟨_, _, _, hp⟩ := told_in (ks := ks) g0
        exact .inl ⟨decide_eq_true g0, i, rfl, hi, e, .inr (.inl ⟨hw, ⟨i, hi, e⟩, hp⟩)⟩
    all_goals first | omega | (clear h; omega)
  · rcases g with ⟨hw', -⟩ | ⟨hw', -⟩ | ⟨_, rfl, rfl, g⟩ | ⟨hw', -⟩
    · omega
    · omega
    · refine ⟨rfl, rfl, ?_⟩
      rcases h with ⟨h0, rfl, rfl⟩ | ⟨h0, rfl, rfl⟩
      · rcases g with ⟨g0, _⟩ | ⟨i, rfl, hi, ⟨_, e⟩ | ⟨hw', -⟩⟩
        · omega
        · exact .inl ⟨rfl, i, rfl, hi, e.symm, .inr (.inr (.inl ⟨hw, h0, rfl⟩))⟩
        · omega
      · rcases g with ⟨_, rfl⟩ | ⟨i, _, hi, _⟩
        · exact .inr ⟨rfl, rfl, rfl⟩
        · omega
    · omega
  · rcases g with ⟨hw', -⟩ | ⟨hw', -⟩ | ⟨_, rfl, rfl, g⟩ | ⟨hw', -⟩
    · omega
    · omega
    · refine ⟨rfl, rfl, ?_⟩
      rcases h with ⟨h0, rfl, rfl⟩ | ⟨h0, rfl, rfl⟩
      · rcases g with ⟨g0, _⟩ | ⟨i, rfl, hi, ⟨hw', -⟩ | ⟨_, e⟩⟩
        · omega
        · omega
        · exact .inl ⟨rfl, i, rfl, hi, e.symm, .inr (.inr (.inr ⟨hw, h0, rfl⟩))⟩
      · rcases g with ⟨_, rfl⟩ | ⟨i, _, hi, _⟩
        · exact .inr ⟨rfl, rfl, rfl⟩
        · omega
    · omega
  · rcases g with ⟨hw', -⟩ | ⟨hw', -⟩ | ⟨hw', -⟩ | ⟨_, rfl, rfl, rfl⟩
    · omega
    · omega
    · omega
    · exact ⟨rfl, rfl, .inr ⟨rfl, rfl, rfl⟩⟩
/-- The reference's loop over the candidates, when one is told. -/
def SlotAt (l : List Cn) (k : Nat) (s z : Int) : Prop := (z = -1 ∧ ∀ i, i < k → (l.getD i default).slot ≠ s) ∨ ∃ i : Nat, z = (i : Int) ∧ i < k ∧ (l.getD i default).slot = s
theorem slot_step {l : List Cn} {k : Nat} {s z : Int} (h : SlotAt l k s z) (hne : (l.getD k default).slot ≠ s) : SlotAt l (k + 1) s z := by
  rcases h with ⟨rfl, h⟩ | ⟨i, rfl, hi, h⟩
  · refine .inl ⟨rfl, fun i hi => ?_⟩
    by_cases hik : i = k
    · subst hik; exact hne
    · exact h i (by omega)
  · exact .inr ⟨i, rfl, by omega, h⟩
theorem slot_end {l : List Cn} {n : Nat} {x : Cn} {z : Int} (hR : RightT l n) (h : SlotAt l n x.slot z) (hx : ∃ j, j < n ∧ l.getD j default = x) : ∃ i : Nat, z = (i : Int) ∧ i < n ∧ l.getD i default = x := by
  obtain ⟨j, hj, e⟩ := hx
  rcases h with ⟨_, h⟩ | ⟨i, rfl, hi, h⟩
  · exact absurd (by rw [e]) (h j hj)
  · have hs : (l.getD i default).slot = (l.getD j default).slot := by rw [h, e]
    rcases Nat.lt_trichotomy i j with h1 | h1 | h1
    · have := right_inc hR i j h1 hj; omega
    · subst h1; exact ⟨i, rfl, hi, e⟩
    · have := right_inc hR j i h1 hi; omega
set_option maxRecDepth 100000 in
set_option maxHeartbeats 4000000 in
theorem rchoose_c (way : Int) (nx : Int) (R : Option Addr) (q cr : Nat) (sh : List Sh) (n : Nat) (A : Option Addr) (c : Nat) (l : List Cn) (a b : Nat) (w0 : World) (hr : View w0 w0.heap.size R (flat shV sh)) (hv : View w0 w0.heap.size A (flat cnV l))
    (hm : sh.length = q) (hl : l.length = n) (hn4 : n ≤ 30) (hm4 : q ≤ 30) (hR : RightT l n) (hmild : Mild (startP (wfT l n) (sh.map Sh.cr))) (ha : a < 4294967296) (hb : b < 4294967296) :
    Calls Try.prog 14 #[.agg #[.int .i64 nx, .slice R q cr], .int .i64 way, .slice A n c, .int .u32 (a : Int), .int .u32 (b : Int)] w0 fun e w' => ∃ nx' A' q' c' sh' z,
      e = .returned (.tuple #[.agg #[.int .i64 nx', .slice A' q' c'], .int .i64 z]) ∧ sh'.length = q' ∧ ChooseR way l n a b nx (sh.map Sh.cr) nx' (sh'.map Sh.cr) z ∧
      (NewV w0 w' A' (flat shV sh') ∨ (A' = R ∧ flat shV sh' = flat shV sh)) ∧ Kp [] w0 w' := by
  have hS := ((St.sv w0).vcons rfl hv).vcons rfl hr
  have hfl := flat_length (enc := cnV) (l := l) cnV_len
  have hall := right_all hR
  have hwk : (wfT l n).length ≤ n := wfT_le l n
  refine ent (n := 81) Try.func14 rfl rfl ?_
  refine wp_seq_k ?_; intro K1 hK1
  refine wlit ?_
  refine wl_e rfl ?_; intro K hK
  refine ow_box hS (tmA rfl rfl) rfl ?_
  clear hS; intro g0_0 w hg0_0 hS
  refine hK _ _ ?_; clear hK K
  refine wl_e rfl ?_; intro K hK
  refine ow_alloc hS tz_48 rfl ?_
  clear hS; intro g0_1 w hg0_1 hS
  refine hK _ _ ?_; clear hK K
  refine wl_v (x_assign (ev_cN 0)) ?_
  refine wl_nil ?_
  refine then_n (hK1 _ _ ?_); clear hK1 K1
  refine wp_seq_k ?_; intro K2 hK2
  refine wlit ?_
  refine wl_v (x_assign ev_c) ?_
  refine wl_nil ?_
  refine then_n (hK2 _ _ ?_); clear hK2 K2
  refine wp_seq_k ?_; intro K3 hK3
  refine wp_seq_k ?_; intro K4 hK4
  refine wlit ?_
  refine wl_v (x_move (tmI rfl rfl)) ?_
  refine wl_nil ?_
  refine then_n (hK4 _ _ ?_); clear hK4 K4
  refine wp_block ?_
  refine wp_seq_k ?_; intro K5 hK5
  refine wlit ?_
  refine wl_v (x_eql (tmI rfl rfl) (ev_cN 1)) ?_
  refine wl_v (x_assign (tmB rfl rfl)) ?_
  refine wl_nil ?_
  refine then_n (hK5 _ _ ?_); clear hK5 K5
  refine cnd (tm rfl) (fun hc0 => ?_) (fun hc0 => ?_)
  · try (exfalso; first | with_reducible exact absurd hc0 Bool.false_ne_true | with_reducible exact absurd hc0.symm Bool.false_ne_true | (simp only [nrm] at hc0; omega) | (simp at hc0; done))
    all_goals
     try simp only [nrm] at hc0
     refine wp_seq_k ?_; intro K6 hK6
     refine wlit ?_
     refine wl_v (x_move (tmS rfl rfl)) ?_
     refine wl_v (x_fa 0 Try.underlying48 rfl rfl ts_3 (tmP rfl rfl)) ?_
     first
      | refine wl_v (x_load Try.underlying3 rfl (tmP rfl rfl) (cellB hS.ok 1 rfl rfl)) ?_
      | refine wl_v (x_load Try.underlying3 rfl (tmP rfl rfl) (cellB hS.ok 1 rfl (getm (by omega)))) ?_
     refine wl_e rfl ?_; intro K hK
     refine ow_call Try.func22 rfl rfl (evs_cons (tmS rfl rfl) <| evs_cons (tmI rfl rfl) <| evs_nil) (rturn_c nx n A c l _ (viewV hS.ok 3 rfl) hl (by omega)) ?_
     rintro e w ⟨z, rfl, hz, hk⟩
     refine ⟨_, rfl, ?_⟩
     replace hS := hS.kept hk
     clear hk
     refine hK _ _ ?_; clear hK K
     refine wl_v (x_assign (tmI rfl rfl)) ?_
     refine wl_nil ?_
     refine then_n (hK6 _ _ ?_); clear hK6 K6
     refine wp_seq_k ?_; intro K7 hK7
     refine wlit ?_
     refine wl_v (x_move (tmI rfl rfl)) ?_
     refine wl_v (x_geq (tmI rfl rfl) (ev_cN 0)) ?_
     refine wl_nil ?_
     refine then_n (hK7 _ _ ?_); clear hK7 K7
     refine cnd (tm rfl) (fun hc1 => ?_) (fun hc1 => ?_)
     · try (exfalso; first | with_reducible exact absurd hc1 Bool.false_ne_true | with_reducible exact absurd hc1.symm Bool.false_ne_true | (simp only [nrm] at hc1; omega) | (simp at hc1; done))
       all_goals
        try simp only [nrm] at hc1
        obtain ⟨i, rfl, hi⟩ : ∃ i : Nat, z = (i : Int) ∧ FirstFrom l n nx i := by
          rcases hz with ⟨_, h⟩ | h
          · omega
          · exact h
        have hin := hi.1
        have hsi := hall i hin
        obtain ⟨b4, o4, rfl⟩ := view_some hv (by rw [hfl]; omega)
        refine wlit ?_
        refine wl_v (x_move (tmS rfl rfl)) ?_
        refine wl_v (x_move (tmI rfl rfl)) ?_
        refine wl_v (x_ixs Try.underlying30 ts_40 (tmS rfl rfl) (tmI rfl rfl) (by omega)) ?_
        refine wl_v (x_fa 0 Try.underlying40 rfl rfl ts_3 (tmP rfl rfl)) ?_
        first
         | refine wl_v (x_load Try.underlying3 rfl (tmP rfl rfl) (cellV hS.ok 2 rfl rfl)) ?_
         | refine wl_v (x_load Try.underlying3 rfl (tmP rfl rfl) (cellV hS.ok 2 rfl (getm (by omega)))) ?_
         | refine wl_v (x_load Try.underlying3 rfl (tmP rfl rfl) (cellVs hS.ok 2 rfl (fun _ => rfl) rfl (by omega) rfl)) ?_
         | refine wl_v (x_load Try.underlying3 rfl (tmP rfl rfl) (cellV hS.ok 3 rfl rfl)) ?_
         | refine wl_v (x_load Try.underlying3 rfl (tmP rfl rfl) (cellV hS.ok 3 rfl (getm (by omega)))) ?_
         | refine wl_v (x_load Try.underlying3 rfl (tmP rfl rfl) (cellVs hS.ok 3 rfl (fun _ => rfl) rfl (by omega) rfl)) ?_
        first
         | refine wl_v (x_addN (tmI rfl rfl) (ev_cN 1) (fit_i64 (by omega))) ?_
         | refine wl_v (x_addI (tmI rfl rfl) (ev_cN 1) (IntWalk.i64_in _ (by omega))) ?_
         | refine wl_v (x_add (tmI rfl rfl) (ev_cN 1)) ?_
        refine wl_v (x_fa 0 Try.underlying48 rfl rfl ts_3 (tmP rfl rfl)) ?_
        refine wl_e rfl ?_; intro K hK
        first
         | refine ow_store hS 1 rfl ts_3 (tmP rfl rfl) (tmI rfl rfl) rfl rfl ?_
         | refine ow_storeX hS 1 rfl ts_3 (tmP rfl rfl) (tmI rfl rfl) rfl (by simp; omega) ?_
        clear hS; intro w hS
        refine hK _ _ ?_; clear hK K
        refine wl_nil ?_
        refine inb_n ?_
        refine then_n (hK3 _ _ ?_); clear hK3 K3
        refine wp_seq_k ?_; intro K8 hK8
        refine wlit ?_
        refine wl_v (x_loadA (cs := [_, _]) Try.underlying48 rfl ts_48 (tmP rfl rfl) (rangeB hS.ok 1 rfl rfl)) ?_
        refine wl_v (x_move (tmI rfl rfl)) ?_
        refine wl_e rfl ?_; intro K hK
        refine ow_storeA hS 0 rfl ts_48 (tmP rfl rfl) (tmA rfl rfl) rfl rfl rfl ?_
        clear hS; intro w hS
        refine hK _ _ ?_; clear hK K
        refine wl_v (x_assign (tmI rfl rfl)) ?_
        refine wl_nil ?_
        refine then_n (hK8 _ _ ?_); clear hK8 K8
        refine wp_ret ?_
        refine ret2 rfl (.cell rfl rfl (load_rowB (cs := [_, _]) hS.ok 0 rfl Try.underlying48 rfl ts_48 rfl)) (.tmp rfl (show _ = Value.int _ _ from rfl)) ?_
        first
          | (have hw : way = 1 := by simpa using hc0
             exact ⟨_, R, q, cr, sh, _, rfl, hm, .inl ⟨hw, rfl, .inr ⟨i, rfl, hi, rfl⟩⟩, .inr ⟨rfl, rfl⟩, hS.kp⟩)
          | (have hw : way = 1 := by simpa using hc0
             have hn : n = 0 ∧ z = -1 := by
               rcases hz with h | ⟨i, rfl, _⟩
               · exact h
               · exfalso; omega
             exact ⟨_, R, q, cr, sh, _, rfl, hm, .inl ⟨hw, rfl, .inl ⟨hn.1, rfl, hn.2⟩⟩, .inr ⟨rfl, rfl⟩, hS.kp⟩)
          | (have hw : way = 2 := by simpa using hc2
             refine ⟨_, R2, q2, c2, sh2, _, rfl, hq2, .inr (.inl ⟨hw, rfl, hrel2, ?_⟩), hor2.imp (fun h => ⟨viewV hS.ok (no_label_vx) rfl, h⟩) id, hS.kp⟩
             by_cases hw0 : 0 < (wfT l n).length
             · refine .inr ⟨hw0, slot_end hR ?_ ?_⟩
               · obtain ⟨b5, rfl, _, _⟩ := hy1 hw0
                 have hkn : k = n := by first | omega | (simp at *; omega)
                 rw [← hkn]
                 rw [← hkn] at hz
                 exact hz
               · obtain ⟨j, hj, e, _⟩ := told_in (ks := sh.map Sh.cr) hw0
                 exact ⟨j, hj, e⟩
             · exact .inl ⟨hw0, hzn hw0⟩)
          | (have hw : way = 3 := by simpa using hc5
             refine ⟨_, R, q, cr, sh, _, rfl, hm, .inr (.inr (.inl ⟨.inl hw, rfl, rfl, ?_⟩)), .inr ⟨rfl, rfl⟩, hS.kp⟩
             rcases hz with h | ⟨i, rfl, hi⟩
             · exact .inl h
             · exact .inr ⟨i, rfl, hi.1, .inl ⟨hw, bst_is hR hi⟩⟩)
          | (have hw : way = 4 := by simpa using hc6
             refine ⟨_, R, q, cr, sh, _, rfl, hm, .inr (.inr (.inl ⟨.inr hw, rfl, rfl, ?_⟩)), .inr ⟨rfl, rfl⟩, hS.kp⟩
             first
               | (have h0 : 0 < n := by first | omega | (simp at hc7; omega)
                  exact .inr ⟨_, rfl, twoI_lt h0, .inr ⟨hw, two_is hR h0⟩⟩)
               | exact .inl ⟨by first | omega | (simp at hc7; omega), rfl⟩)
          | exact ⟨_, R, q, cr, sh, _, rfl, hm, .inr (.inr (.inr ⟨⟨by simpa using hc0, by simpa using hc2, by simpa using hc5, by simpa using hc6⟩, rfl, rfl, rfl⟩)), .inr ⟨rfl, rfl⟩, hS.kp⟩
     try (exfalso; first | with_reducible exact absurd hc1 Bool.false_ne_true | with_reducible exact absurd hc1.symm Bool.false_ne_true | (simp only [nrm] at hc1; omega) | (simp at hc1; done))
     all_goals
      try simp only [nrm] at hc1
      refine wp_skip ?_
      refine inb_n ?_
      refine then_n (hK3 _ _ ?_); clear hK3 K3
      refine wp_seq_k ?_; intro K10 hK10
      refine wlit ?_
      refine wl_v (x_loadA (cs := [_, _]) Try.underlying48 rfl ts_48 (tmP rfl rfl) (rangeB hS.ok 1 rfl rfl)) ?_
      refine wl_v (x_move (tmI rfl rfl)) ?_
      refine wl_e rfl ?_; intro K hK
      refine ow_storeA hS 0 rfl ts_48 (tmP rfl rfl) (tmA rfl rfl) rfl rfl rfl ?_
      clear hS; intro w hS
      refine hK _ _ ?_; clear hK K
      refine wl_v (x_assign (tmI rfl rfl)) ?_
      refine wl_nil ?_
      refine then_n (hK10 _ _ ?_); clear hK10 K10
      refine wp_ret ?_
      refine ret2 rfl (.cell rfl rfl (load_rowB (cs := [_, _]) hS.ok 0 rfl Try.underlying48 rfl ts_48 rfl)) (.tmp rfl (show _ = Value.int _ _ from rfl)) ?_
      first
        | (have hw : way = 1 := by simpa using hc0
           exact ⟨_, R, q, cr, sh, _, rfl, hm, .inl ⟨hw, rfl, .inr ⟨i, rfl, hi, rfl⟩⟩, .inr ⟨rfl, rfl⟩, hS.kp⟩)
        | (have hw : way = 1 := by simpa using hc0
           have hn : n = 0 ∧ z = -1 := by
             rcases hz with h | ⟨i, rfl, _⟩
             · exact h
             · exfalso; omega
           exact ⟨_, R, q, cr, sh, _, rfl, hm, .inl ⟨hw, rfl, .inl ⟨hn.1, rfl, hn.2⟩⟩, .inr ⟨rfl, rfl⟩, hS.kp⟩)
        | (have hw : way = 2 := by simpa using hc2
           refine ⟨_, R2, q2, c2, sh2, _, rfl, hq2, .inr (.inl ⟨hw, rfl, hrel2, ?_⟩), hor2.imp (fun h => ⟨viewV hS.ok (no_label_vx) rfl, h⟩) id, hS.kp⟩
           by_cases hw0 : 0 < (wfT l n).length
           · refine .inr ⟨hw0, slot_end hR ?_ ?_⟩
             · obtain ⟨b5, rfl, _, _⟩ := hy1 hw0
               have hkn : k = n := by first | omega | (simp at *; omega)
               rw [← hkn]
               rw [← hkn] at hz
               exact hz
             · obtain ⟨j, hj, e, _⟩ := told_in (ks := sh.map Sh.cr) hw0
               exact ⟨j, hj, e⟩
           · exact .inl ⟨hw0, hzn hw0⟩)
        | (have hw : way = 3 := by simpa using hc5
           refine ⟨_, R, q, cr, sh, _, rfl, hm, .inr (.inr (.inl ⟨.inl hw, rfl, rfl, ?_⟩)), .inr ⟨rfl, rfl⟩, hS.kp⟩
           rcases hz with h | ⟨i, rfl, hi⟩
           · exact .inl h
           · exact .inr ⟨i, rfl, hi.1, .inl ⟨hw, bst_is hR hi⟩⟩)
        | (have hw : way = 4 := by simpa using hc6
           refine ⟨_, R, q, cr, sh, _, rfl, hm, .inr (.inr (.inl ⟨.inr hw, rfl, rfl, ?_⟩)), .inr ⟨rfl, rfl⟩, hS.kp⟩
           first
             | (have h0 : 0 < n := by first | omega | (simp at hc7; omega)
                exact .inr ⟨_, rfl, twoI_lt h0, .inr ⟨hw, two_is hR h0⟩⟩)
             | exact .inl ⟨by first | omega | (simp at hc7; omega), rfl⟩)
        | exact ⟨_, R, q, cr, sh, _, rfl, hm, .inr (.inr (.inr ⟨⟨by simpa using hc0, by simpa using hc2, by simpa using hc5, by simpa using hc6⟩, rfl, rfl, rfl⟩)), .inr ⟨rfl, rfl⟩, hS.kp⟩
  try (exfalso; first | with_reducible exact absurd hc0 Bool.false_ne_true | with_reducible exact absurd hc0.symm Bool.false_ne_true | (simp only [nrm] at hc0; omega) | (simp at hc0; done))
  all_goals
   try simp only [nrm] at hc0
   refine wp_seq_k ?_; intro K12 hK12
   refine wlit ?_
   refine wl_v (x_eql (tmI rfl rfl) (ev_cN 2)) ?_
   refine wl_v (x_assign (tmB rfl rfl)) ?_
   refine wl_nil ?_
   refine then_n (hK12 _ _ ?_); clear hK12 K12
   refine cnd (tm rfl) (fun hc2 => ?_) (fun hc2 => ?_)
   · try (exfalso; first | with_reducible exact absurd hc2 Bool.false_ne_true | with_reducible exact absurd hc2.symm Bool.false_ne_true | (simp only [nrm] at hc2; omega) | (simp at hc2; done))
     all_goals
      try simp only [nrm] at hc2
      refine wp_seq_k ?_; intro K13 hK13
      refine wlit ?_
      refine wl_v (x_fa 1 Try.underlying48 rfl rfl ts_28 (tmP rfl rfl)) ?_
      first
       | refine wl_v (x_load Try.underlying28 rfl (tmP rfl rfl) (cellB hS.ok 1 rfl rfl)) ?_
       | refine wl_v (x_load Try.underlying28 rfl (tmP rfl rfl) (cellB hS.ok 1 rfl (getm (by omega)))) ?_
      refine wl_v (x_move (tmS rfl rfl)) ?_
      refine wl_e rfl ?_; intro K hK
      refine ow_call Try.func10 rfl rfl (evs_cons (tmS rfl rfl) <| evs_cons (tmS rfl rfl) <| evs_nil) (rpick_j q R cr sh n A c l _ (viewV hS.ok 2 rfl) (viewV hS.ok 3 rfl) hm hl (by omega) (by omega) hmild (fun i hi => by have := hall i hi; omega) (wf_sum hR)) ?_
      rintro e w ⟨R2, q2, c2, sh2, y, rfl, hq2, hrel2, hy1, hy2, hor, hk2⟩
      refine ⟨_, rfl, ?_⟩
      have hor2 := hor.imp (fun h => (h.back hS.kp).2) id
      replace hS := hS.orv 2 rfl hk2 hor -- +vx
      clear hor
      refine hK _ _ ?_; clear hK K
      refine wl_v (x_move (tmT rfl rfl)) ?_
      refine wl_v (x_ext (tmT rfl rfl) rfl) ?_
      refine wl_v (x_ext (tmT rfl rfl) rfl) ?_
      refine wl_v (x_assign (tmS rfl rfl)) ?_
      refine wl_v (x_assign (tmI rfl rfl)) ?_
      refine wl_nil ?_
      refine then_n (hK13 _ _ ?_); clear hK13 K13
      refine wp_seq_k ?_; intro K14 hK14
      refine wlit ?_
      refine wl_v (x_move (tmS rfl rfl)) ?_
      refine wl_v (x_fa 1 Try.underlying48 rfl rfl ts_28 (tmP rfl rfl)) ?_
      refine wl_e rfl ?_; intro K hK
      first
       | refine ow_store hS 2 rfl ts_28 (tmP rfl rfl) (tmS rfl rfl) rfl rfl ?_
       | refine ow_storeX hS 2 rfl ts_28 (tmP rfl rfl) (tmS rfl rfl) rfl (by simp; omega) ?_
      clear hS; intro w hS
      refine hK _ _ ?_; clear hK K
      refine wl_nil ?_
      refine then_n (hK14 _ _ ?_); clear hK14 K14
      refine wp_seq_k ?_; intro K15 hK15
      refine wlit ?_
      refine wl_v (x_assign (ev_cN 0)) ?_
      refine wl_nil ?_
      refine then_n (hK15 _ _ ?_); clear hK15 K15
      refine wp_block ?_
      refine lp [12, 15, 43, 44, 45, 46, 47, 48, 49, 50, 51, 52, 53, 54, 55, 56, 57, 58, 59, 60, 61, 62, 63, 64, 65] (fun mz g w => ∃ (k : Nat), ∃ (z : Int), mz = n - k ∧ g 15 = .int .i64 (k : Int) ∧ g 12 = .int .i64 z ∧ St [] w0 [.blk g0_0 48 [.int .i64 nx, .slice R2 q2 c2], .blk g0_1 48 [.int .i64 0, .slice none 0 0], .vw R2 (flat shV sh2), .vw R (flat shV sh), .vw A (flat cnV l)] w ∧ (k ≤ n) ∧ (SlotAt l k (toldC (wfT l n) (sh.map Sh.cr)).slot z) ∧ (¬ 0 < (wfT l n).length → z = -1)) ?_ ?_
      · exact ⟨_, 0, -1, rfl, (by first | rfl | go_num | exact congrArg (Value.int _) (by first | omega | (simp; done) | (simp; omega))), (by first | rfl | go_num | exact congrArg (Value.int _) (by first | omega | (simp; done) | (simp; omega))), (hS.pick [2, 1, 0, 3, 4] rfl rfl), (by omega), (by first | exact hz1 | exact .inl ⟨rfl, fun i hi => absurd hi (Nat.not_lt_zero _)⟩), (by first | exact fun _ => rfl | exact fun h => absurd hw0 h)⟩
      · clear hS; intro mz g w hI
        obtain ⟨k, z, rfl, hs15, hs12, hS, hk, hz, hzn⟩ := hI
        refine fr_know (d := 15) hs15 ?_; clear hs15
        refine fr_know (d := 12) hs12 ?_; clear hs12
        refine wp_seq_k ?_; intro K16 hK16
        refine wp_seq_k ?_; intro K17 hK17
        refine wlit ?_
        refine wl_v (x_move (tmI rfl rfl)) ?_
        refine wl_v (x_move (tmS rfl rfl)) ?_
        refine wl_v (x_len Try.underlying30 (tmS rfl rfl)) ?_
        refine wl_v (x_lss (tmI rfl rfl) (tmI rfl rfl)) ?_
        refine wl_v (x_move (tmB rfl rfl)) ?_
        refine gs_wl (tm (t := 47) rfl) (fun hg11_4 => ?_) (fun hg11_4 => ?_)
        · have hg11_4' := hg11_4; (try simp only [nrm] at hg11_4'); try (exfalso; first | with_reducible exact absurd hg11_4 Bool.false_ne_true | with_reducible exact absurd hg11_4.symm Bool.false_ne_true | omega | (simp at hg11_4; done))
          all_goals
           refine wl_gv (want_y rfl rfl rfl rfl (by rw [hg11_4]; rfl)) (x_move (tmI rfl rfl)) ?_
           refine wl_gv (want_y rfl rfl rfl rfl (by rw [hg11_4]; rfl)) (x_geq (tmI rfl rfl) (ev_cN 0)) ?_
           refine wl_v (x_pickT (tmB rfl rfl) hg11_4 (tmB rfl rfl)) ?_
           refine wl_nil ?_
           refine then_n (hK17 _ _ ?_); clear hK17 K17
           refine cnd (tm rfl) (fun hc3 => ?_) (fun hc3 => ?_)
           · try (exfalso; first | with_reducible exact absurd hc3 Bool.false_ne_true | with_reducible exact absurd hc3.symm Bool.false_ne_true | (simp only [nrm] at hc3; omega) | (simp at hc3; done))
             all_goals
              try simp only [nrm] at hc3
              have hw0 : 0 < (wfT l n).length := by
                rcases Nat.eq_zero_or_pos (wfT l n).length with h | h
                · have := hy2 (by omega)
                  omega
                · exact h
              obtain ⟨b5, rfl, hb5, hcn⟩ := hy1 hw0
              have hss : (toldC (wfT l n) (sh.map Sh.cr)).slot = (sh2.getD b5 default).slot := by rw [← hcn]; rfl
              obtain ⟨bR, oR, rfl⟩ := view_some (viewV hS.ok 2 rfl) (by rw [flat_length shV_len]; omega)
              obtain ⟨b4, o4, rfl⟩ := view_some hv (by rw [hfl]; omega)
              refine wp_skip ?_
              refine then_n (hK16 _ _ ?_); clear hK16 K16
              refine wp_seq_k ?_; intro K18 hK18
              refine wp_block ?_
              refine wp_seq_k ?_; intro K19 hK19
              refine rg_startk 0 hS mixed_ ?_
              clear hS; intro w hS
              refine rg_take 0 rfl rfl (by kernel_rfl) (by kernel_rfl) (by kernel_rfl) (want_0) (fun w hok => x_move (tmS rfl rfl)) ?_
              refine rg_take 1 rfl rfl (by kernel_rfl) (by kernel_rfl) (by kernel_rfl) (want_0) (fun w hok => x_move (tmI rfl rfl)) ?_
              refine rg_take 2 rfl rfl (by kernel_rfl) (by kernel_rfl) (by kernel_rfl) (want_0) (fun w hok => x_ixs Try.underlying30 ts_40 (tmS rfl rfl) (tmI rfl rfl) (by omega)) ?_
              refine rg_take 3 rfl rfl (by kernel_rfl) (by kernel_rfl) (by kernel_rfl) (want_0) (fun w hok => x_fa 0 Try.underlying40 rfl rfl ts_3 (tmP rfl rfl)) ?_
              first
               | refine rg_take 4 rfl rfl (by kernel_rfl) (by kernel_rfl) (by kernel_rfl) (want_0) (fun w hok => x_load Try.underlying3 rfl (tmP rfl rfl) (cellV hok 2 rfl rfl)) ?_
               | refine rg_take 4 rfl rfl (by kernel_rfl) (by kernel_rfl) (by kernel_rfl) (want_0) (fun w hok => x_load Try.underlying3 rfl (tmP rfl rfl) (cellV hok 2 rfl (getm (by omega)))) ?_
               | refine rg_take 4 rfl rfl (by kernel_rfl) (by kernel_rfl) (by kernel_rfl) (want_0) (fun w hok => x_load Try.underlying3 rfl (tmP rfl rfl) (cellVs hok 2 rfl (fun _ => rfl) rfl (by omega) rfl)) ?_
               | refine rg_take 4 rfl rfl (by kernel_rfl) (by kernel_rfl) (by kernel_rfl) (want_0) (fun w hok => x_load Try.underlying3 rfl (tmP rfl rfl) (cellV hok 3 rfl rfl)) ?_
               | refine rg_take 4 rfl rfl (by kernel_rfl) (by kernel_rfl) (by kernel_rfl) (want_0) (fun w hok => x_load Try.underlying3 rfl (tmP rfl rfl) (cellV hok 3 rfl (getm (by omega)))) ?_
               | refine rg_take 4 rfl rfl (by kernel_rfl) (by kernel_rfl) (by kernel_rfl) (want_0) (fun w hok => x_load Try.underlying3 rfl (tmP rfl rfl) (cellVs hok 3 rfl (fun _ => rfl) rfl (by omega) rfl)) ?_
               | refine rg_take 4 rfl rfl (by kernel_rfl) (by kernel_rfl) (by kernel_rfl) (want_0) (fun w hok => x_load Try.underlying3 rfl (tmP rfl rfl) (cellV hok 4 rfl rfl)) ?_
               | refine rg_take 4 rfl rfl (by kernel_rfl) (by kernel_rfl) (by kernel_rfl) (want_0) (fun w hok => x_load Try.underlying3 rfl (tmP rfl rfl) (cellV hok 4 rfl (getm (by omega)))) ?_
               | refine rg_take 4 rfl rfl (by kernel_rfl) (by kernel_rfl) (by kernel_rfl) (want_0) (fun w hok => x_load Try.underlying3 rfl (tmP rfl rfl) (cellVs hok 4 rfl (fun _ => rfl) rfl (by omega) rfl)) ?_
              refine rg_take 5 rfl rfl (by kernel_rfl) (by kernel_rfl) (by kernel_rfl) (want_0) (fun w hok => x_move (tmS rfl rfl)) ?_
              refine rg_take 6 rfl rfl (by kernel_rfl) (by kernel_rfl) (by kernel_rfl) (want_0) (fun w hok => x_move (tmI rfl rfl)) ?_
              refine rg_take 7 rfl rfl (by kernel_rfl) (by kernel_rfl) (by kernel_rfl) (want_0) (fun w hok => x_ixs Try.underlying28 ts_42 (tmS rfl rfl) (tmI rfl rfl) (by omega)) ?_
              refine rg_take 8 rfl rfl (by kernel_rfl) (by kernel_rfl) (by kernel_rfl) (want_0) (fun w hok => x_fa 0 Try.underlying42 rfl rfl ts_40 (tmP rfl rfl)) ?_
              refine rg_take 9 rfl rfl (by kernel_rfl) (by kernel_rfl) (by kernel_rfl) (want_0) (fun w hok => x_fa 0 Try.underlying40 rfl rfl ts_3 (tmP rfl rfl)) ?_
              first
               | refine rg_take 10 rfl rfl (by kernel_rfl) (by kernel_rfl) (by kernel_rfl) (want_0) (fun w hok => x_load Try.underlying3 rfl (tmP rfl rfl) (cellV hok 2 rfl rfl)) ?_
               | refine rg_take 10 rfl rfl (by kernel_rfl) (by kernel_rfl) (by kernel_rfl) (want_0) (fun w hok => x_load Try.underlying3 rfl (tmP rfl rfl) (cellV hok 2 rfl (getm (by omega)))) ?_
               | refine rg_take 10 rfl rfl (by kernel_rfl) (by kernel_rfl) (by kernel_rfl) (want_0) (fun w hok => x_load Try.underlying3 rfl (tmP rfl rfl) (cellVs hok 2 rfl (fun _ => rfl) rfl (by omega) rfl)) ?_
               | refine rg_take 10 rfl rfl (by kernel_rfl) (by kernel_rfl) (by kernel_rfl) (want_0) (fun w hok => x_load Try.underlying3 rfl (tmP rfl rfl) (cellV hok 3 rfl rfl)) ?_
               | refine rg_take 10 rfl rfl (by kernel_rfl) (by kernel_rfl) (by kernel_rfl) (want_0) (fun w hok => x_load Try.underlying3 rfl (tmP rfl rfl) (cellV hok 3 rfl (getm (by omega)))) ?_
               | refine rg_take 10 rfl rfl (by kernel_rfl) (by kernel_rfl) (by kernel_rfl) (want_0) (fun w hok => x_load Try.underlying3 rfl (tmP rfl rfl) (cellVs hok 3 rfl (fun _ => rfl) rfl (by omega) rfl)) ?_
               | refine rg_take 10 rfl rfl (by kernel_rfl) (by kernel_rfl) (by kernel_rfl) (want_0) (fun w hok => x_load Try.underlying3 rfl (tmP rfl rfl) (cellV hok 4 rfl rfl)) ?_
               | refine rg_take 10 rfl rfl (by kernel_rfl) (by kernel_rfl) (by kernel_rfl) (want_0) (fun w hok => x_load Try.underlying3 rfl (tmP rfl rfl) (cellV hok 4 rfl (getm (by omega)))) ?_
               | refine rg_take 10 rfl rfl (by kernel_rfl) (by kernel_rfl) (by kernel_rfl) (want_0) (fun w hok => x_load Try.underlying3 rfl (tmP rfl rfl) (cellVs hok 4 rfl (fun _ => rfl) rfl (by omega) rfl)) ?_
              refine rg_take 11 rfl rfl (by kernel_rfl) (by kernel_rfl) (by kernel_rfl) (want_0) (fun w hok => x_eql (tmI rfl rfl) (tmI rfl rfl)) ?_
              refine rg_done (oks_drop hS 0 rfl) (by kernel_rfl) ?_
              refine then_n (hK19 _ _ ?_); clear hK19 K19
              refine cnd (tm rfl) (fun hc4 => ?_) (fun hc4 => ?_)
              · try (exfalso; first | with_reducible exact absurd hc4 Bool.false_ne_true | with_reducible exact absurd hc4.symm Bool.false_ne_true | (simp only [nrm] at hc4; omega) | (simp at hc4; done))
                all_goals
                 try simp only [nrm] at hc4
                 have hz1 : SlotAt l (k + 1) (toldC (wfT l n) (sh.map Sh.cr)).slot (k : Int) := .inr ⟨k, rfl, by omega, by rw [hss]; first | exact hc4 | simpa using hc4⟩
                 refine wlit ?_
                 refine wl_v (x_move (tmI rfl rfl)) ?_
                 refine wl_v (x_assign (tmI rfl rfl)) ?_
                 refine wl_nil ?_
                 refine inb_n ?_
                 refine then_n (hK18 _ _ ?_); clear hK18 K18
                 refine wlit ?_
                 refine wl_v (x_move (tmI rfl rfl)) ?_
                 first
                  | refine wl_v (x_addN (tmI rfl rfl) (ev_cN 1) (fit_i64 (by omega))) ?_
                  | refine wl_v (x_addI (tmI rfl rfl) (ev_cN 1) (IntWalk.i64_in _ (by omega))) ?_
                  | refine wl_v (x_add (tmI rfl rfl) (ev_cN 1)) ?_
                 refine wl_v (x_assign (tmI rfl rfl)) ?_
                 refine wl_nil ?_
                 first
                  | exact then_n ⟨_, _, rfl, (by show _ < _; omega), (by repeat (first | exact agree_self | exact agree_refl | refine agree_upd rfl ?_ | refine agree_mix rfl ?_)), k + 1, _, rfl, (by first | rfl | go_num | exact congrArg (Value.int _) (by first | omega | (simp; done) | (simp; omega))), (by first | rfl | go_num | exact congrArg (Value.int _) (by first | omega | (simp; done) | (simp; omega))), hS, (by omega), (by first | exact hz1 | exact .inl ⟨rfl, fun i hi => absurd hi (Nat.not_lt_zero _)⟩), (by first | exact fun _ => rfl | exact fun h => absurd hw0 h)⟩
                  | exact then_n ⟨_, _, rfl, (by show _ < _; omega), (by repeat (first | exact agree_self | exact agree_refl | refine agree_upd rfl ?_ | refine agree_mix rfl ?_)), k + 1, _, rfl, (by first | rfl | go_num | exact congrArg (Value.int _) (by first | omega | (simp; done) | (simp; omega))), (by first | rfl | go_num | exact congrArg (Value.int _) (by first | omega | (simp; done) | (simp; omega))), hS, (by omega), (by first | exact hz1 | exact .inl ⟨rfl, fun i hi => absurd hi (Nat.not_lt_zero _)⟩), (by first | exact fun _ => rfl | exact fun h => absurd hw0 h)⟩
              try (exfalso; first | with_reducible exact absurd hc4 Bool.false_ne_true | with_reducible exact absurd hc4.symm Bool.false_ne_true | (simp only [nrm] at hc4; omega) | (simp at hc4; done))
              all_goals
               try simp only [nrm] at hc4
               have hz1 : SlotAt l (k + 1) (toldC (wfT l n) (sh.map Sh.cr)).slot z := slot_step hz (by rw [hss]; first | exact hc4 | simpa using hc4)
               refine wp_skip ?_
               refine inb_n ?_
               refine then_n (hK18 _ _ ?_); clear hK18 K18
               refine wlit ?_
               refine wl_v (x_move (tmI rfl rfl)) ?_
               first
                | refine wl_v (x_addN (tmI rfl rfl) (ev_cN 1) (fit_i64 (by omega))) ?_
                | refine wl_v (x_addI (tmI rfl rfl) (ev_cN 1) (IntWalk.i64_in _ (by omega))) ?_
                | refine wl_v (x_add (tmI rfl rfl) (ev_cN 1)) ?_
               refine wl_v (x_assign (tmI rfl rfl)) ?_
               refine wl_nil ?_
               first
                | exact then_n ⟨_, _, rfl, (by show _ < _; omega), (by repeat (first | exact agree_self | exact agree_refl | refine agree_upd rfl ?_ | refine agree_mix rfl ?_)), k + 1, _, rfl, (by first | rfl | go_num | exact congrArg (Value.int _) (by first | omega | (simp; done) | (simp; omega))), (by first | rfl | go_num | exact congrArg (Value.int _) (by first | omega | (simp; done) | (simp; omega))), hS, (by omega), (by first | exact hz1 | exact .inl ⟨rfl, fun i hi => absurd hi (Nat.not_lt_zero _)⟩), (by first | exact fun _ => rfl | exact fun h => absurd hw0 h)⟩
                | exact then_n ⟨_, _, rfl, (by show _ < _; omega), (by repeat (first | exact agree_self | exact agree_refl | refine agree_upd rfl ?_ | refine agree_mix rfl ?_)), k + 1, _, rfl, (by first | rfl | go_num | exact congrArg (Value.int _) (by first | omega | (simp; done) | (simp; omega))), (by first | rfl | go_num | exact congrArg (Value.int _) (by first | omega | (simp; done) | (simp; omega))), hS, (by omega), (by first | exact hz1 | exact .inl ⟨rfl, fun i hi => absurd hi (Nat.not_lt_zero _)⟩), (by first | exact fun _ => rfl | exact fun h => absurd hw0 h)⟩
           try (exfalso; first | with_reducible exact absurd hc3 Bool.false_ne_true | with_reducible exact absurd hc3.symm Bool.false_ne_true | (simp only [nrm] at hc3; omega) | (simp at hc3; done))
           all_goals
            try simp only [nrm] at hc3
            refine wp_exit ?_
            refine then_x ?_; clear hK16 K16
            refine then_x ?_
            refine inb_x ?_
            refine inb_n ?_
            refine then_n (hK3 _ _ ?_); clear hK3 K3
            refine wp_seq_k ?_; intro K20 hK20
            refine wlit ?_
            refine wl_v (x_loadA (cs := [_, _]) Try.underlying48 rfl ts_48 (tmP rfl rfl) (rangeB hS.ok 0 rfl rfl)) ?_
            refine wl_v (x_move (tmI rfl rfl)) ?_
            refine wl_e rfl ?_; intro K hK
            refine ow_storeA hS 1 rfl ts_48 (tmP rfl rfl) (tmA rfl rfl) rfl rfl rfl ?_
            clear hS; intro w hS
            refine hK _ _ ?_; clear hK K
            refine wl_v (x_assign (tmI rfl rfl)) ?_
            refine wl_nil ?_
            refine then_n (hK20 _ _ ?_); clear hK20 K20
            refine wp_ret ?_
            refine ret2 rfl (.cell rfl rfl (load_rowB (cs := [_, _]) hS.ok 1 rfl Try.underlying48 rfl ts_48 rfl)) (.tmp rfl (show _ = Value.int _ _ from rfl)) ?_
            first
              | (have hw : way = 1 := by simpa using hc0
                 exact ⟨_, R, q, cr, sh, _, rfl, hm, .inl ⟨hw, rfl, .inr ⟨i, rfl, hi, rfl⟩⟩, .inr ⟨rfl, rfl⟩, hS.kp⟩)
              | (have hw : way = 1 := by simpa using hc0
                 have hn : n = 0 ∧ z = -1 := by
                   rcases hz with h | ⟨i, rfl, _⟩
                   · exact h
                   · exfalso; omega
                 exact ⟨_, R, q, cr, sh, _, rfl, hm, .inl ⟨hw, rfl, .inl ⟨hn.1, rfl, hn.2⟩⟩, .inr ⟨rfl, rfl⟩, hS.kp⟩)
              | (have hw : way = 2 := by simpa using hc2
                 refine ⟨_, R2, q2, c2, sh2, _, rfl, hq2, .inr (.inl ⟨hw, rfl, hrel2, ?_⟩), hor2.imp (fun h => ⟨viewV hS.ok 2 rfl, h⟩) id, hS.kp⟩
                 by_cases hw0 : 0 < (wfT l n).length
                 · refine .inr ⟨hw0, slot_end hR ?_ ?_⟩
                   · obtain ⟨b5, rfl, _, _⟩ := hy1 hw0
                     have hkn : k = n := by first | omega | (simp at *; omega)
                     rw [← hkn]
                     rw [← hkn] at hz
                     exact hz
                   · obtain ⟨j, hj, e, _⟩ := told_in (ks := sh.map Sh.cr) hw0
                     exact ⟨j, hj, e⟩
                 · exact .inl ⟨hw0, hzn hw0⟩)
              | (have hw : way = 3 := by simpa using hc5
                 refine ⟨_, R, q, cr, sh, _, rfl, hm, .inr (.inr (.inl ⟨.inl hw, rfl, rfl, ?_⟩)), .inr ⟨rfl, rfl⟩, hS.kp⟩
                 rcases hz with h | ⟨i, rfl, hi⟩
                 · exact .inl h
                 · exact .inr ⟨i, rfl, hi.1, .inl ⟨hw, bst_is hR hi⟩⟩)
              | (have hw : way = 4 := by simpa using hc6
                 refine ⟨_, R, q, cr, sh, _, rfl, hm, .inr (.inr (.inl ⟨.inr hw, rfl, rfl, ?_⟩)), .inr ⟨rfl, rfl⟩, hS.kp⟩
                 first
                   | (have h0 : 0 < n := by first | omega | (simp at hc7; omega)
                      exact .inr ⟨_, rfl, twoI_lt h0, .inr ⟨hw, two_is hR h0⟩⟩)
                   | exact .inl ⟨by first | omega | (simp at hc7; omega), rfl⟩)
              | exact ⟨_, R, q, cr, sh, _, rfl, hm, .inr (.inr (.inr ⟨⟨by simpa using hc0, by simpa using hc2, by simpa using hc5, by simpa using hc6⟩, rfl, rfl, rfl⟩)), .inr ⟨rfl, rfl⟩, hS.kp⟩
        have hg11_4' := hg11_4; (try simp only [nrm] at hg11_4'); try (exfalso; first | with_reducible exact absurd hg11_4 Bool.false_ne_true | with_reducible exact absurd hg11_4.symm Bool.false_ne_true | omega | (simp at hg11_4; done))
        all_goals
         refine wl_s rfl (want_n rfl rfl rfl rfl (by rw [hg11_4]; rfl)) ?_
         refine wl_s rfl (want_n rfl rfl rfl rfl (by rw [hg11_4]; rfl)) ?_
         refine wl_v (x_pickF (tmB rfl rfl) hg11_4 ev_c) ?_
         refine wl_nil ?_
         refine then_n (hK17 _ _ ?_); clear hK17 K17
         refine cnd_f (tmB rfl rfl) rfl ?_
         refine wp_exit ?_
         refine then_x ?_; clear hK16 K16
         refine then_x ?_
         refine inb_x ?_
         refine inb_n ?_
         refine then_n (hK3 _ _ ?_); clear hK3 K3
         refine wp_seq_k ?_; intro K22 hK22
         refine wlit ?_
         refine wl_v (x_loadA (cs := [_, _]) Try.underlying48 rfl ts_48 (tmP rfl rfl) (rangeB hS.ok 0 rfl rfl)) ?_
         refine wl_v (x_move (tmI rfl rfl)) ?_
         refine wl_e rfl ?_; intro K hK
         refine ow_storeA hS 1 rfl ts_48 (tmP rfl rfl) (tmA rfl rfl) rfl rfl rfl ?_
         clear hS; intro w hS
         refine hK _ _ ?_; clear hK K
         refine wl_v (x_assign (tmI rfl rfl)) ?_
         refine wl_nil ?_
         refine then_n (hK22 _ _ ?_); clear hK22 K22
         refine wp_ret ?_
         refine ret2 rfl (.cell rfl rfl (load_rowB (cs := [_, _]) hS.ok 1 rfl Try.underlying48 rfl ts_48 rfl)) (.tmp rfl (show _ = Value.int _ _ from rfl)) ?_
         first
           | (have hw : way = 1 := by simpa using hc0
              exact ⟨_, R, q, cr, sh, _, rfl, hm, .inl ⟨hw, rfl, .inr ⟨i, rfl, hi, rfl⟩⟩, .inr ⟨rfl, rfl⟩, hS.kp⟩)
           | (have hw : way = 1 := by simpa using hc0
              have hn : n = 0 ∧ z = -1 := by
                rcases hz with h | ⟨i, rfl, _⟩
                · exact h
                · exfalso; omega
              exact ⟨_, R, q, cr, sh, _, rfl, hm, .inl ⟨hw, rfl, .inl ⟨hn.1, rfl, hn.2⟩⟩, .inr ⟨rfl, rfl⟩, hS.kp⟩)
           | (have hw : way = 2 := by simpa using hc2
              refine ⟨_, R2, q2, c2, sh2, _, rfl, hq2, .inr (.inl ⟨hw, rfl, hrel2, ?_⟩), hor2.imp (fun h => ⟨viewV hS.ok 2 rfl, h⟩) id, hS.kp⟩
              by_cases hw0 : 0 < (wfT l n).length
              · refine .inr ⟨hw0, slot_end hR ?_ ?_⟩
                · obtain ⟨b5, rfl, _, _⟩ := hy1 hw0
                  have hkn : k = n := by first | omega | (simp at *; omega)
                  rw [← hkn]
                  rw [← hkn] at hz
                  exact hz
                · obtain ⟨j, hj, e, _⟩ := told_in (ks := sh.map Sh.cr) hw0
                  exact ⟨j, hj, e⟩
              · exact .inl ⟨hw0, hzn hw0⟩)
           | (have hw : way = 3 := by simpa using hc5
              refine ⟨_, R, q, cr, sh, _, rfl, hm, .inr (.inr (.inl ⟨.inl hw, rfl, rfl, ?_⟩)), .inr ⟨rfl, rfl⟩, hS.kp⟩
              rcases hz with h | ⟨i, rfl, hi⟩
              · exact .inl h
              · exact .inr ⟨i, rfl, hi.1, .inl ⟨hw, bst_is hR hi⟩⟩)
           | (have hw : way = 4 := by simpa using hc6
              refine ⟨_, R, q, cr, sh, _, rfl, hm, .inr (.inr (.inl ⟨.inr hw, rfl, rfl, ?_⟩)), .inr ⟨rfl, rfl⟩, hS.kp⟩
              first
                | (have h0 : 0 < n := by first | omega | (simp at hc7; omega)
                   exact .inr ⟨_, rfl, twoI_lt h0, .inr ⟨hw, two_is hR h0⟩⟩)
                | exact .inl ⟨by first | omega | (simp at hc7; omega), rfl⟩)
           | exact ⟨_, R, q, cr, sh, _, rfl, hm, .inr (.inr (.inr ⟨⟨by simpa using hc0, by simpa using hc2, by simpa using hc5, by simpa using hc6⟩, rfl, rfl, rfl⟩)), .inr ⟨rfl, rfl⟩, hS.kp⟩
   try (exfalso; first | with_reducible exact absurd hc2 Bool.false_ne_true | with_reducible exact absurd hc2.symm Bool.false_ne_true | (simp only [nrm] at hc2; omega) | (simp at hc2; done))
   all_goals
    try simp only [nrm] at hc2
    refine wp_seq_k ?_; intro K24 hK24
    refine wlit ?_
    refine wl_v (x_eql (tmI rfl rfl) (ev_cN 3)) ?_
    refine wl_v (x_assign (tmB rfl rfl)) ?_
    refine wl_nil ?_
    refine then_n (hK24 _ _ ?_); clear hK24 K24
    refine cnd (tm rfl) (fun hc5 => ?_) (fun hc5 => ?_)
    · try (exfalso; first | with_reducible exact absurd hc5 Bool.false_ne_true | with_reducible exact absurd hc5.symm Bool.false_ne_true | (simp only [nrm] at hc5; omega) | (simp at hc5; done))
      all_goals
       try simp only [nrm] at hc5
       refine wlit ?_
       refine wl_v (x_move (tmS rfl rfl)) ?_
       refine wl_e rfl ?_; intro K hK
       refine ow_call Try.func23 rfl rfl (evs_cons (tmS rfl rfl) <| evs_nil) (rleast_c n A c l _ (viewV hS.ok 3 rfl) hl (by omega)) ?_
       rintro e w ⟨z, rfl, hz, hk⟩
       refine ⟨_, rfl, ?_⟩
       replace hS := hS.kept hk
       clear hk
       refine hK _ _ ?_; clear hK K
       refine wl_v (x_assign (tmI rfl rfl)) ?_
       refine wl_nil ?_
       refine inb_n ?_
       refine then_n (hK3 _ _ ?_); clear hK3 K3
       refine wp_seq_k ?_; intro K25 hK25
       refine wlit ?_
       refine wl_v (x_loadA (cs := [_, _]) Try.underlying48 rfl ts_48 (tmP rfl rfl) (rangeB hS.ok 1 rfl rfl)) ?_
       refine wl_v (x_move (tmI rfl rfl)) ?_
       refine wl_e rfl ?_; intro K hK
       refine ow_storeA hS 0 rfl ts_48 (tmP rfl rfl) (tmA rfl rfl) rfl rfl rfl ?_
       clear hS; intro w hS
       refine hK _ _ ?_; clear hK K
       refine wl_v (x_assign (tmI rfl rfl)) ?_
       refine wl_nil ?_
       refine then_n (hK25 _ _ ?_); clear hK25 K25
       refine wp_ret ?_
       refine ret2 rfl (.cell rfl rfl (load_rowB (cs := [_, _]) hS.ok 0 rfl Try.underlying48 rfl ts_48 rfl)) (.tmp rfl (show _ = Value.int _ _ from rfl)) ?_
       first
         | (have hw : way = 1 := by simpa using hc0
            exact ⟨_, R, q, cr, sh, _, rfl, hm, .inl ⟨hw, rfl, .inr ⟨i, rfl, hi, rfl⟩⟩, .inr ⟨rfl, rfl⟩, hS.kp⟩)
         | (have hw : way = 1 := by simpa using hc0
            have hn : n = 0 ∧ z = -1 := by
              rcases hz with h | ⟨i, rfl, _⟩
              · exact h
              · exfalso; omega
            exact ⟨_, R, q, cr, sh, _, rfl, hm, .inl ⟨hw, rfl, .inl ⟨hn.1, rfl, hn.2⟩⟩, .inr ⟨rfl, rfl⟩, hS.kp⟩)
         | (have hw : way = 2 := by simpa using hc2
            refine ⟨_, R2, q2, c2, sh2, _, rfl, hq2, .inr (.inl ⟨hw, rfl, hrel2, ?_⟩), hor2.imp (fun h => ⟨viewV hS.ok (no_label_vx) rfl, h⟩) id, hS.kp⟩
            by_cases hw0 : 0 < (wfT l n).length
            · refine .inr ⟨hw0, slot_end hR ?_ ?_⟩
              · obtain ⟨b5, rfl, _, _⟩ := hy1 hw0
                have hkn : k = n := by first | omega | (simp at *; omega)
                rw [← hkn]
                rw [← hkn] at hz
                exact hz
              · obtain ⟨j, hj, e, _⟩ := told_in (ks := sh.map Sh.cr) hw0
                exact ⟨j, hj, e⟩
            · exact .inl ⟨hw0, hzn hw0⟩)
         | (have hw : way = 3 := by simpa using hc5
            refine ⟨_, R, q, cr, sh, _, rfl, hm, .inr (.inr (.inl ⟨.inl hw, rfl, rfl, ?_⟩)), .inr ⟨rfl, rfl⟩, hS.kp⟩
            rcases hz with h | ⟨i, rfl, hi⟩
            · exact .inl h
            · exact .inr ⟨i, rfl, hi.1, .inl ⟨hw, bst_is hR hi⟩⟩)
         | (have hw : way = 4 := by simpa using hc6
            refine ⟨_, R, q, cr, sh, _, rfl, hm, .inr (.inr (.inl ⟨.inr hw, rfl, rfl, ?_⟩)), .inr ⟨rfl, rfl⟩, hS.kp⟩
            first
              | (have h0 : 0 < n := by first | omega | (simp at hc7; omega)
                 exact .inr ⟨_, rfl, twoI_lt h0, .inr ⟨hw, two_is hR h0⟩⟩)
              | exact .inl ⟨by first | omega | (simp at hc7; omega), rfl⟩)
         | exact ⟨_, R, q, cr, sh, _, rfl, hm, .inr (.inr (.inr ⟨⟨by simpa using hc0, by simpa using hc2, by simpa using hc5, by simpa using hc6⟩, rfl, rfl, rfl⟩)), .inr ⟨rfl, rfl⟩, hS.kp⟩
    try (exfalso; first | with_reducible exact absurd hc5 Bool.false_ne_true | with_reducible exact absurd hc5.symm Bool.false_ne_true | (simp only [nrm] at hc5; omega) | (simp at hc5; done))
    all_goals
     try simp only [nrm] at hc5
     refine wp_seq_k ?_; intro K27 hK27
     refine wlit ?_
     refine wl_v (x_eql (tmI rfl rfl) (ev_cN 4)) ?_
     refine wl_v (x_assign (tmB rfl rfl)) ?_
     refine wl_nil ?_
     refine then_n (hK27 _ _ ?_); clear hK27 K27
     refine cnd (tm rfl) (fun hc6 => ?_) (fun hc6 => ?_)
     · try (exfalso; first | with_reducible exact absurd hc6 Bool.false_ne_true | with_reducible exact absurd hc6.symm Bool.false_ne_true | (simp only [nrm] at hc6; omega) | (simp at hc6; done))
       all_goals
        try simp only [nrm] at hc6
        refine wp_seq_k ?_; intro K28 hK28
        refine wlit ?_
        refine wl_v (x_move (tmS rfl rfl)) ?_
        refine wl_v (x_len Try.underlying30 (tmS rfl rfl)) ?_
        refine wl_v (x_gtr (tmI rfl rfl) (ev_cN 0)) ?_
        refine wl_nil ?_
        refine then_n (hK28 _ _ ?_); clear hK28 K28
        refine cnd (tm rfl) (fun hc7 => ?_) (fun hc7 => ?_)
        · try (exfalso; first | with_reducible exact absurd hc7 Bool.false_ne_true | with_reducible exact absurd hc7.symm Bool.false_ne_true | (simp only [nrm] at hc7; omega) | (simp at hc7; done))
          all_goals
           try simp only [nrm] at hc7
           refine wlit ?_
           refine wl_v (x_move (tmS rfl rfl)) ?_
           refine wl_v (x_move (tmI rfl rfl)) ?_
           refine wl_v (x_move (tmI rfl rfl)) ?_
           refine wl_e rfl ?_; intro K hK
           refine ow_call Try.func24 rfl rfl (evs_cons (tmS rfl rfl) <| evs_cons (tmI rfl rfl) <| evs_cons (tmI rfl rfl) <| evs_nil) (rtwo_c n A c l a b _ (viewV hS.ok 3 rfl) hl (by omega) (by first | omega | (simp at hc7; omega)) ha hb) ?_
           rintro e w ⟨rfl, hk⟩
           refine ⟨_, rfl, ?_⟩
           replace hS := hS.kept hk
           clear hk
           refine hK _ _ ?_; clear hK K
           refine wl_v (x_assign (tmI rfl rfl)) ?_
           refine wl_nil ?_
           refine inb_n ?_
           refine then_n (hK3 _ _ ?_); clear hK3 K3
           refine wp_seq_k ?_; intro K29 hK29
           refine wlit ?_
           refine wl_v (x_loadA (cs := [_, _]) Try.underlying48 rfl ts_48 (tmP rfl rfl) (rangeB hS.ok 1 rfl rfl)) ?_
           refine wl_v (x_move (tmI rfl rfl)) ?_
           refine wl_e rfl ?_; intro K hK
           refine ow_storeA hS 0 rfl ts_48 (tmP rfl rfl) (tmA rfl rfl) rfl rfl rfl ?_
           clear hS; intro w hS
           refine hK _ _ ?_; clear hK K
           refine wl_v (x_assign (tmI rfl rfl)) ?_
           refine wl_nil ?_
           refine then_n (hK29 _ _ ?_); clear hK29 K29
           refine wp_ret ?_
           refine ret2 rfl (.cell rfl rfl (load_rowB (cs := [_, _]) hS.ok 0 rfl Try.underlying48 rfl ts_48 rfl)) (.tmp rfl (show _ = Value.int _ _ from rfl)) ?_
           first
             | (have hw : way = 1 := by simpa using hc0
                exact ⟨_, R, q, cr, sh, _, rfl, hm, .inl ⟨hw, rfl, .inr ⟨i, rfl, hi, rfl⟩⟩, .inr ⟨rfl, rfl⟩, hS.kp⟩)
             | (have hw : way = 1 := by simpa using hc0
                have hn : n = 0 ∧ z = -1 := by
                  rcases hz with h | ⟨i, rfl, _⟩
                  · exact h
                  · exfalso; omega
                exact ⟨_, R, q, cr, sh, _, rfl, hm, .inl ⟨hw, rfl, .inl ⟨hn.1, rfl, hn.2⟩⟩, .inr ⟨rfl, rfl⟩, hS.kp⟩)
             | (have hw : way = 2 := by simpa using hc2
                refine ⟨_, R2, q2, c2, sh2, _, rfl, hq2, .inr (.inl ⟨hw, rfl, hrel2, ?_⟩), hor2.imp (fun h => ⟨viewV hS.ok (no_label_vx) rfl, h⟩) id, hS.kp⟩
                by_cases hw0 : 0 < (wfT l n).length
                · refine .inr ⟨hw0, slot_end hR ?_ ?_⟩
                  · obtain ⟨b5, rfl, _, _⟩ := hy1 hw0
                    have hkn : k = n := by first | omega | (simp at *; omega)
                    rw [← hkn]
                    rw [← hkn] at hz
                    exact hz
                  · obtain ⟨j, hj, e, _⟩ := told_in (ks := sh.map Sh.cr) hw0
                    exact ⟨j, hj, e⟩
                · exact .inl ⟨hw0, hzn hw0⟩)
             | (have hw : way = 3 := by simpa using hc5
                refine ⟨_, R, q, cr, sh, _, rfl, hm, .inr (.inr (.inl ⟨.inl hw, rfl, rfl, ?_⟩)), .inr ⟨rfl, rfl⟩, hS.kp⟩
                rcases hz with h | ⟨i, rfl, hi⟩
                · exact .inl h
                · exact .inr ⟨i, rfl, hi.1, .inl ⟨hw, bst_is hR hi⟩⟩)
             | (have hw : way = 4 := by simpa using hc6
                refine ⟨_, R, q, cr, sh, _, rfl, hm, .inr (.inr (.inl ⟨.inr hw, rfl, rfl, ?_⟩)), .inr ⟨rfl, rfl⟩, hS.kp⟩
                first
                  | (have h0 : 0 < n := by first | omega | (simp at hc7; omega)
                     exact .inr ⟨_, rfl, twoI_lt h0, .inr ⟨hw, two_is hR h0⟩⟩)
                  | exact .inl ⟨by first | omega | (simp at hc7; omega), rfl⟩)
             | exact ⟨_, R, q, cr, sh, _, rfl, hm, .inr (.inr (.inr ⟨⟨by simpa using hc0, by simpa using hc2, by simpa using hc5, by simpa using hc6⟩, rfl, rfl, rfl⟩)), .inr ⟨rfl, rfl⟩, hS.kp⟩
        try (exfalso; first | with_reducible exact absurd hc7 Bool.false_ne_true | with_reducible exact absurd hc7.symm Bool.false_ne_true | (simp only [nrm] at hc7; omega) | (simp at hc7; done))
        all_goals
         try simp only [nrm] at hc7
         refine wp_skip ?_
         refine inb_n ?_
         refine then_n (hK3 _ _ ?_); clear hK3 K3
         refine wp_seq_k ?_; intro K31 hK31
         refine wlit ?_
         refine wl_v (x_loadA (cs := [_, _]) Try.underlying48 rfl ts_48 (tmP rfl rfl) (rangeB hS.ok 1 rfl rfl)) ?_
         refine wl_v (x_move (tmI rfl rfl)) ?_
         refine wl_e rfl ?_; intro K hK
         refine ow_storeA hS 0 rfl ts_48 (tmP rfl rfl) (tmA rfl rfl) rfl rfl rfl ?_
         clear hS; intro w hS
         refine hK _ _ ?_; clear hK K
         refine wl_v (x_assign (tmI rfl rfl)) ?_
         refine wl_nil ?_
         refine then_n (hK31 _ _ ?_); clear hK31 K31
         refine wp_ret ?_
         refine ret2 rfl (.cell rfl rfl (load_rowB (cs := [_, _]) hS.ok 0 rfl Try.underlying48 rfl ts_48 rfl)) (.tmp rfl (show _ = Value.int _ _ from rfl)) ?_
         first
           | (have hw : way = 1 := by simpa using hc0
              exact ⟨_, R, q, cr, sh, _, rfl, hm, .inl ⟨hw, rfl, .inr ⟨i, rfl, hi, rfl⟩⟩, .inr ⟨rfl, rfl⟩, hS.kp⟩)
           | (have hw : way = 1 := by simpa using hc0
              have hn : n = 0 ∧ z = -1 := by
                rcases hz with h | ⟨i, rfl, _⟩
                · exact h
                · exfalso; omega
              exact ⟨_, R, q, cr, sh, _, rfl, hm, .inl ⟨hw, rfl, .inl ⟨hn.1, rfl, hn.2⟩⟩, .inr ⟨rfl, rfl⟩, hS.kp⟩)
           | (have hw : way = 2 := by simpa using hc2
              refine ⟨_, R2, q2, c2, sh2, _, rfl, hq2, .inr (.inl ⟨hw, rfl, hrel2, ?_⟩), hor2.imp (fun h => ⟨viewV hS.ok (no_label_vx) rfl, h⟩) id, hS.kp⟩
              by_cases hw0 : 0 < (wfT l n).length
              · refine .inr ⟨hw0, slot_end hR ?_ ?_⟩
                · obtain ⟨b5, rfl, _, _⟩ := hy1 hw0
                  have hkn : k = n := by first | omega | (simp at *; omega)
                  rw [← hkn]
                  rw [← hkn] at hz
                  exact hz
                · obtain ⟨j, hj, e, _⟩ := told_in (ks := sh.map Sh.cr) hw0
                  exact ⟨j, hj, e⟩
              · exact .inl ⟨hw0, hzn hw0⟩)
           | (have hw : way = 3 := by simpa using hc5
              refine ⟨_, R, q, cr, sh, _, rfl, hm, .inr (.inr (.inl ⟨.inl hw, rfl, rfl, ?_⟩)), .inr ⟨rfl, rfl⟩, hS.kp⟩
              rcases hz with h | ⟨i, rfl, hi⟩
              · exact .inl h
              · exact .inr ⟨i, rfl, hi.1, .inl ⟨hw, bst_is hR hi⟩⟩)
           | (have hw : way = 4 := by simpa using hc6
              refine ⟨_, R, q, cr, sh, _, rfl, hm, .inr (.inr (.inl ⟨.inr hw, rfl, rfl, ?_⟩)), .inr ⟨rfl, rfl⟩, hS.kp⟩
              first
                | (have h0 : 0 < n := by first | omega | (simp at hc7; omega)
                   exact .inr ⟨_, rfl, twoI_lt h0, .inr ⟨hw, two_is hR h0⟩⟩)
                | exact .inl ⟨by first | omega | (simp at hc7; omega), rfl⟩)
           | exact ⟨_, R, q, cr, sh, _, rfl, hm, .inr (.inr (.inr ⟨⟨by simpa using hc0, by simpa using hc2, by simpa using hc5, by simpa using hc6⟩, rfl, rfl, rfl⟩)), .inr ⟨rfl, rfl⟩, hS.kp⟩
     try (exfalso; first | with_reducible exact absurd hc6 Bool.false_ne_true | with_reducible exact absurd hc6.symm Bool.false_ne_true | (simp only [nrm] at hc6; omega) | (simp at hc6; done))
     all_goals
      try simp only [nrm] at hc6
      refine wp_skip ?_
      refine inb_n ?_
      refine then_n (hK3 _ _ ?_); clear hK3 K3
      refine wp_seq_k ?_; intro K33 hK33
      refine wlit ?_
      refine wl_v (x_loadA (cs := [_, _]) Try.underlying48 rfl ts_48 (tmP rfl rfl) (rangeB hS.ok 1 rfl rfl)) ?_
      refine wl_v (x_move (tmI rfl rfl)) ?_
      refine wl_e rfl ?_; intro K hK
      refine ow_storeA hS 0 rfl ts_48 (tmP rfl rfl) (tmA rfl rfl) rfl rfl rfl ?_
      clear hS; intro w hS
      refine hK _ _ ?_; clear hK K
      refine wl_v (x_assign (tmI rfl rfl)) ?_
      refine wl_nil ?_
      refine then_n (hK33 _ _ ?_); clear hK33 K33
      refine wp_ret ?_
      refine ret2 rfl (.cell rfl rfl (load_rowB (cs := [_, _]) hS.ok 0 rfl Try.underlying48 rfl ts_48 rfl)) (.tmp rfl (show _ = Value.int _ _ from rfl)) ?_
      first
        | (have hw : way = 1 := by simpa using hc0
           exact ⟨_, R, q, cr, sh, _, rfl, hm, .inl ⟨hw, rfl, .inr ⟨i, rfl, hi, rfl⟩⟩, .inr ⟨rfl, rfl⟩, hS.kp⟩)
        | (have hw : way = 1 := by simpa using hc0
           have hn : n = 0 ∧ z = -1 := by
             rcases hz with h | ⟨i, rfl, _⟩
             · exact h
             · exfalso; omega
           exact ⟨_, R, q, cr, sh, _, rfl, hm, .inl ⟨hw, rfl, .inl ⟨hn.1, rfl, hn.2⟩⟩, .inr ⟨rfl, rfl⟩, hS.kp⟩)
        | (have hw : way = 2 := by simpa using hc2
           refine ⟨_, R2, q2, c2, sh2, _, rfl, hq2, .inr (.inl ⟨hw, rfl, hrel2, ?_⟩), hor2.imp (fun h => ⟨viewV hS.ok (no_label_vx) rfl, h⟩) id, hS.kp⟩
           by_cases hw0 : 0 < (wfT l n).length
           · refine .inr ⟨hw0, slot_end hR ?_ ?_⟩
             · obtain ⟨b5, rfl, _, _⟩ := hy1 hw0
               have hkn : k = n := by first | omega | (simp at *; omega)
               rw [← hkn]
               rw [← hkn] at hz
               exact hz
             · obtain ⟨j, hj, e, _⟩ := told_in (ks := sh.map Sh.cr) hw0
               exact ⟨j, hj, e⟩
           · exact .inl ⟨hw0, hzn hw0⟩)
        | (have hw : way = 3 := by simpa using hc5
           refine ⟨_, R, q, cr, sh, _, rfl, hm, .inr (.inr (.inl ⟨.inl hw, rfl, rfl, ?_⟩)), .inr ⟨rfl, rfl⟩, hS.kp⟩
           rcases hz with h | ⟨i, rfl, hi⟩
           · exact .inl h
           · exact .inr ⟨i, rfl, hi.1, .inl ⟨hw, bst_is hR hi⟩⟩)
        | (have hw : way = 4 := by simpa using hc6
           refine ⟨_, R, q, cr, sh, _, rfl, hm, .inr (.inr (.inl ⟨.inr hw, rfl, rfl, ?_⟩)), .inr ⟨rfl, rfl⟩, hS.kp⟩
           first
             | (have h0 : 0 < n := by first | omega | (simp at hc7; omega)
                exact .inr ⟨_, rfl, twoI_lt h0, .inr ⟨hw, two_is hR h0⟩⟩)
             | exact .inl ⟨by first | omega | (simp at hc7; omega), rfl⟩)
        | exact ⟨_, R, q, cr, sh, _, rfl, hm, .inr (.inr (.inr ⟨⟨by simpa using hc0, by simpa using hc2, by simpa using hc5, by simpa using hc6⟩, rfl, rfl, rfl⟩)), .inr ⟨rfl, rfl⟩, hS.kp⟩
end PolicyF
end Go.Proofs.Yteocdobepgbnkaa
