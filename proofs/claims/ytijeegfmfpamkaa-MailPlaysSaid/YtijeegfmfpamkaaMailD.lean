
/- mail's calls, over all their cases. Conditions: none but bounds. -/
import Derived.Test.YtijeegfmfpamkaaMailC
namespace Go.Proofs.Ytijeegfmfpamkaa
open Go.ChangeShapes Go.WideShapes Go.ChangeAt Go.RowKit
theorem St.tl {F : List Nat} {w w' : World} {M' : List Ent} {e : Ent} (h : St F w (e :: M') w') : St F w M' w' :=
  ⟨h.kp, fun x hx => h.ok x (List.mem_cons_of_mem _ hx), fun i j a b hij ha hb => h.ap (i + 1) (j + 1) a b (by omega) (by rw [List.getElem?_cons_succ]; exact ha) (by rw [List.getElem?_cons_succ]; exact hb), fun x hx => h.own x (List.mem_cons_of_mem _ hx)⟩
/-- Letters that lie apart of F and G lie apart of M' and G. -/
def AwsT (F : List Nat) (w w' : World) (M' : List Ent) (ls ls' : List GLt) : Prop := ∀ G : List Nat, (∀ b ∈ G, b < w.heap.size) → Aws w (F ++ G) ls → Aws w' (blks M' ++ G) ls'
theorem AwsT.step {F : List Nat} {w w' : World} {M' : List Ent} {ls ks : List GLt} (hS : St F w M' w') (hro : M'.all (fun e => !e.ro) = true) (hs : ∀ r ∈ ks, r ∈ ls) : AwsT F w w' M' ls ks := fun G hG h r hr => by
  have h1 : Aws w F ls := h.few fun b hb => List.mem_append_left _ hb
  obtain ⟨hv, hb⟩ := (h1.step hS hro) r (hs r hr)
  refine ⟨hv, fun b hbb hm => ?_⟩
  rcases List.mem_append.1 hm with hm | hm
  · exact hb b hbb hm
  · exact (h r (hs r hr)).2 b hbb (List.mem_append_right _ hm)
theorem AwsT.snoc {F : List Nat} {w w' : World} {M' : List Ent} {ls : List GLt} {A : Option Addr} {l : List Nat} (node : Int) (back : Bool) (c : Nat) (hS : St F w (.vw A (l.map u8v) :: M') w') (hnv : NewV w w' A (l.map u8v)) (hro : M'.all (fun e => !e.ro) = true) : AwsT F w w' M' ls (ls ++ [lt node back A l c]) := fun G hG h => by
  have hS' : St F w M' w' := hS.tl
  intro r hr
  rcases List.mem_append.1 hr with hr | hr
  · exact AwsT.step hS' hro (fun r hr => hr) G hG h r hr
  · have h0 : Aws w' (blks M') [] := Aws.nil
    obtain ⟨hv, hb⟩ := (h0.snoc node back c hS hro) r (by simpa using hr)
    obtain rfl := List.mem_singleton.1 hr
    refine ⟨hv, fun b hbb hm => ?_⟩
    rcases List.mem_append.1 hm with hm | hm
    · exact hb b hbb hm
    · have h1 := hnv.2 b hbb
      have h2 := hG b hm
      omega
abbrev Sp := Int × Bool × List Nat
def SendP (most : Int) (L : List Sp) (lost : Nat) (s : Sp) (L' : List Sp) (lost' : Nat) (z : Int) : Prop :=
  ((L.length : Int) < most ∧ L' = L ++ [s] ∧ lost' = lost ∧ z = 0) ∨ (¬ (L.length : Int) < most ∧ L' = L ∧ lost' = lost + 1 ∧ z = 23)
set_option maxRecDepth 100000 in
set_option maxHeartbeats 4000000 in
theorem msend_c (gm : Nat) (Ka : Option Addr) (q ck : Nat) (ls : List GLt) (most : Int) (lost : Nat) (node : Int) (back : Bool) (A : Option Addr) (l : List Nat) (n c : Nat) (F : List Nat) (w0 : World)
    (hS : St F w0 [.row (.slice Ka q ck) 31 3 q (flat GLt.V ls), .blk gm 52 [.slice Ka q ck, .int .i64 most, .int .i64 (lost : Int)], .vw A (l.map u8v)] w0)
    (hl : l.length = n) (hn4 : n ≤ 1000) (hq : ls.length = q) (hq4 : q ≤ 1000) (hlost : lost ≤ 1000000) :
    Calls Try.prog 7 #[.pointer (some ⟨gm, 0, none⟩), .agg #[.int .i64 node, .bool back, .slice A n c]] w0 fun e w' => ∃ Ka' q' ck' ls' lost' z, e = .returned (.int .i64 z) ∧ St F w0 [.row (.slice Ka' q' ck') 31 3 q' (flat GLt.V ls'), .blk gm 52 [.slice Ka' q' ck', .int .i64 most, .int .i64 ((lost' : Nat) : Int)]] w' ∧ ls'.length = q' ∧ SendP most (ls.map strip) lost (node, back, l) (ls'.map strip) lost' z ∧ AwsT F w0 w' [.row (.slice Ka' q' ck') 31 3 q' (flat GLt.V ls'), .blk gm 52 [.slice Ka' q' ck', .int .i64 most, .int .i64 ((lost' : Nat) : Int)]] ls ls' := by
  by_cases h : (q : Int) < most
  · refine (msend_in gm Ka q ck ls most lost node back A l n c F w0 hS hl hn4 hq4 h).mono ?_
    rintro e w' ⟨A', c', Ka', ck', rfl, hS2, hnv⟩
    refine ⟨Ka', q + 1, ck', _, lost, 0, rfl, hS2.pick [0, 1] rfl rfl, by rw [List.length_append, hq]; rfl, .inl ⟨by rw [List.length_map, hq]; exact h, by rw [List.map_append]; rfl, rfl, rfl⟩, ?_⟩
    exact AwsT.snoc node back c' (hS2.pick [2, 0, 1] rfl rfl) hnv rfl
  · refine (msend_full gm Ka q ck ls most lost node back A n c F w0 (hS.pick [0, 1] rfl rfl) h hlost).mono ?_
    rintro e w' ⟨rfl, hS2⟩
    exact ⟨Ka, q, ck, ls, lost + 1, 23, rfl, hS2, hq, .inr ⟨by rw [List.length_map, hq]; exact h, rfl, rfl, rfl⟩, AwsT.step hS2 rfl fun r hr => hr⟩
def TakeP (ls : List GLt) (i : Int) (ls' : List GLt) (x : GLt) (z : Int) : Prop :=
  (∃ k : Nat, i = (k : Int) ∧ k < ls.length ∧ ls' = cutL ls k ∧ x = ls.getD k default ∧ z = 0) ∨ (¬ (0 ≤ i ∧ i < (ls.length : Int)) ∧ ls' = ls ∧ z = 6)
theorem cutL_mem {ls : List GLt} {k : Nat} : ∀ r ∈ cutL ls k, r ∈ ls := fun r hr => by
  rcases List.mem_append.1 hr with hr | hr
  · exact List.mem_of_mem_take hr
  · exact List.mem_of_mem_drop hr
theorem cutL_len {ls : List GLt} {k : Nat} (h : k < ls.length) : (cutL ls k).length = ls.length - 1 := by
  unfold cutL
  rw [List.length_append, List.length_take, List.length_drop]
  omega
set_option maxRecDepth 100000 in
set_option maxHeartbeats 4000000 in
theorem mtake_c (gm : Nat) (Ka : Option Addr) (q ck : Nat) (ls : List GLt) (most lost : Int) (i : Int) (F : List Nat) (w0 : World)
    (hS : St F w0 [.row (.slice Ka q ck) 31 3 q (flat GLt.V ls), .blk gm 52 [.slice Ka q ck, .int .i64 most, .int .i64 lost]] w0)
    (hq : ls.length = q) (hq4 : q ≤ 1000) :
    Calls Try.prog 10 #[.pointer (some ⟨gm, 0, none⟩), .int .i64 i] w0 fun e w' => ∃ Ka' q' ck' ls' x z, e = .returned (.tuple #[.agg #[.int .i64 x.node, .bool x.back, .slice x.b.a x.b.l.length x.b.c], .int .i64 z]) ∧ St F w0 [.row (.slice Ka' q' ck') 31 3 q' (flat GLt.V ls'), .blk gm 52 [.slice Ka' q' ck', .int .i64 most, .int .i64 lost]] w' ∧ ls'.length = q' ∧ TakeP ls i ls' x z ∧ AwsT F w0 w' [.row (.slice Ka' q' ck') 31 3 q' (flat GLt.V ls'), .blk gm 52 [.slice Ka' q' ck', .int .i64 most, .int .i64 lost]] ls ls' := by
  by_cases h : 0 ≤ i ∧ i < (q : Int)
  · obtain ⟨k, rfl⟩ := Int.eq_ofNat_of_zero_le h.1
    refine (mtake_in gm Ka q ck ls most lost k F w0 hS hq hq4 (by omega)).mono ?_
    rintro e w' ⟨Ka', ck', rfl, hS2⟩
    exact ⟨Ka', q - 1, ck', _, _, 0, rfl, hS2, by rw [cutL_len (by omega), hq], .inl ⟨k, rfl, by omega, rfl, rfl, rfl⟩, AwsT.step hS2 rfl cutL_mem⟩
  · refine (mtake_out gm Ka q ck most lost i w0 (viewB hS.ok 1 rfl) h).mono ?_
    rintro e w' ⟨rfl, hk⟩
    exact ⟨Ka, q, ck, ls, default, 6, rfl, hS.kept hk, hq, .inr ⟨by rw [hq]; exact h, rfl, rfl⟩, AwsT.step (hS.kept hk) rfl fun r hr => hr⟩

set_option maxRecDepth 100000 in
set_option maxHeartbeats 4000000 in
theorem mdrop_c (gm : Nat) (Ka : Option Addr) (q ck : Nat) (ls : List GLt) (most : Int) (lost : Nat) (i : Int) (F : List Nat) (w0 : World)
    (hS : St F w0 [.row (.slice Ka q ck) 31 3 q (flat GLt.V ls), .blk gm 52 [.slice Ka q ck, .int .i64 most, .int .i64 (lost : Int)]] w0)
    (hq : ls.length = q) (hq4 : q ≤ 1000) (hlost : lost ≤ 1000000) :
    Calls Try.prog 14 #[.pointer (some ⟨gm, 0, none⟩), .int .i64 i] w0 fun e w' => ∃ Ka' q' ck' ls' x z, e = .returned (.int .i64 z) ∧ St F w0 [.row (.slice Ka' q' ck') 31 3 q' (flat GLt.V ls'), .blk gm 52 [.slice Ka' q' ck', .int .i64 most, .int .i64 ((if z = 0 then lost + 1 else lost : Nat) : Int)]] w' ∧ ls'.length = q' ∧ TakeP ls i ls' x z ∧ AwsT F w0 w' [.row (.slice Ka' q' ck') 31 3 q' (flat GLt.V ls'), .blk gm 52 [.slice Ka' q' ck', .int .i64 most, .int .i64 ((if z = 0 then lost + 1 else lost : Nat) : Int)]] ls ls' := by
  refine ent (n := 23) Try.func14 rfl rfl ?_
  refine wp_seq_k ?_; intro K1 hK1
  refine wlit ?_
  refine wl_v (x_assign (ev_cN 0)) ?_
  refine wl_nil ?_
  refine then_n (hK1 _ _ ?_); clear hK1 K1
  refine wp_seq_k ?_; intro K2 hK2
  refine wlit ?_
  refine wl_v (x_move (tmP rfl rfl)) ?_
  refine wl_v (x_move (tmI rfl rfl)) ?_
  refine wl_e rfl ?_; intro K hK
  refine ow_call Try.func10 rfl rfl (evs_cons (tmP rfl rfl) <| evs_cons (tmI rfl rfl) <| evs_nil) (mtake_c gm Ka q ck ls most lost i _ _ (hS.enter [0, 1] [] rfl rfl) hq hq4) ?_
  rintro e w ⟨Ka', q', ck', ls', x, z, rfl, hS2, hq', hT, hA⟩
  refine ⟨_, rfl, ?_⟩
  replace hS := hS.leave [0, 1] [] rfl rfl rfl hS2 rfl --ents row,gm
  clear hS2
  try replace hS := St.nm (M' := [.row _ _ _ _ _, _]) hS rfl
  refine hK _ _ ?_; clear hK K
  refine wl_v (x_move (tmT rfl rfl)) ?_
  refine wl_v (x_ext (tmT rfl rfl) rfl) ?_
  refine wl_v (x_ext (tmT rfl rfl) rfl) ?_
  refine wl_e rfl ?_; intro K hK
  refine ow_alloc hS tz_31 rfl ?_
  clear hS; intro g1_6 w hg1_6 hS
  refine hK _ _ ?_; clear hK K
  refine wl_e rfl ?_; intro K hK
  refine ow_storeA hS 0 rfl ts_31 (tmP rfl rfl) (tmA rfl rfl) rfl rfl rfl ?_
  clear hS; intro w hS
  try replace hS := St.nm (M' := [.blk _ _ [_, _, _], .row _ _ _ _ _, _]) hS rfl
  refine hK _ _ ?_; clear hK K
  refine wl_v (x_assign (tmI rfl rfl)) ?_
  refine wl_nil ?_
  refine then_n (hK2 _ _ ?_); clear hK2 K2
  refine wp_seq_k ?_; intro K3 hK3
  refine wp_seq_k ?_; intro K4 hK4
  refine wlit ?_
  refine wl_v (x_move (tmI rfl rfl)) ?_
  refine wl_v (x_eql (tmI rfl rfl) (ev_cN 0)) ?_
  refine wl_nil ?_
  refine then_n (hK4 _ _ ?_); clear hK4 K4
  refine cnd (tm rfl) (fun hc0 => ?_) (fun hc0 => ?_)
  · try (exfalso; first | with_reducible exact absurd hc0 Bool.false_ne_true | with_reducible exact absurd hc0.symm Bool.false_ne_true | (simp only [nrm] at hc0; omega) | (simp at hc0; done))
    all_goals
     try simp only [nrm] at hc0
     obtain rfl : z = 0 := by simpa using hc0
     have hsub : ∀ r ∈ ls', r ∈ ls := by
       rcases hT with ⟨k, _, _, rfl, _⟩ | ⟨_, rfl, _⟩
       · exact cutL_mem
       · exact fun r hr => hr
     refine wlit ?_
     refine wl_v (x_move (tmP rfl rfl)) ?_
     refine wl_v (x_nil (A := none) (tmP rfl rfl)) ?_
     refine wl_v (x_fa 2 Try.underlying52 rfl rfl ts_3 (tmP rfl rfl)) ?_
     first
      | refine wl_v (x_load Try.underlying3 rfl (tmP rfl rfl) (cellB hS.ok 2 rfl rfl)) ?_
      | refine wl_v (x_load Try.underlying3 rfl (tmP rfl rfl) (cellR hS.ok 1 rfl rfl)) ?_
      | refine wl_v (x_load Try.underlying3 rfl (tmP rfl rfl) (cellR hS.ok 1 rfl (getm (by omega)))) ?_
      | refine wl_v (x_load Try.underlying3 rfl (tmP rfl rfl) (cellRs hS.ok 1 rfl (fun _ => rfl) rfl (by omega) rfl)) ?_
     first
      | refine wl_v (x_addN (tmI rfl rfl) (ev_cN 1) (fit_i64 (by omega))) ?_
      | refine wl_v (x_addI (tmI rfl rfl) (ev_cN 1) (IntWalk.i64_in _ (by omega))) ?_
      | refine wl_v (x_add (tmI rfl rfl) (ev_cN 1)) ?_
     refine wl_v (x_nil (A := none) (tmP rfl rfl)) ?_
     refine wl_v (x_fa 2 Try.underlying52 rfl rfl ts_3 (tmP rfl rfl)) ?_
     refine wl_e rfl ?_; intro K hK
     first
      | refine ow_store hS 1 rfl ts_3 (tmP rfl rfl) (tmI rfl rfl) rfl rfl ?_
      | refine ow_storeX hS 1 rfl ts_3 (tmP rfl rfl) (tmI rfl rfl) rfl (by simp; omega) ?_
      | refine ow_storeRs hS 1 rfl ts_3 (tmP rfl rfl) (tmI rfl rfl) rfl (by first | omega | (simp; omega)) ?_
      | refine ow_storeR hS 1 rfl ts_3 (tmP rfl rfl) (tmI rfl rfl) rfl (by first | omega | (simp; omega)) ?_
      | refine ow_store hS 2 rfl ts_3 (tmP rfl rfl) (tmI rfl rfl) rfl rfl ?_
      | refine ow_storeX hS 2 rfl ts_3 (tmP rfl rfl) (tmI rfl rfl) rfl (by simp; omega) ?_
      | refine ow_storeRs hS 2 rfl ts_3 (tmP rfl rfl) (tmI rfl rfl) rfl (by first | omega | (simp; omega)) ?_
      | refine ow_storeR hS 2 rfl ts_3 (tmP rfl rfl) (tmI rfl rfl) rfl (by first | omega | (simp; omega)) ?_
     clear hS; intro w hS
     refine hK _ _ ?_; clear hK K
     refine wl_nil ?_
     refine then_n (hK3 _ _ ?_); clear hK3 K3
     refine wp_seq_k ?_; intro K5 hK5
     refine wlit ?_
     refine wl_v (x_move (tmI rfl rfl)) ?_
     refine wl_v (x_assign (tmI rfl rfl)) ?_
     refine wl_nil ?_
     refine then_n (hK5 _ _ ?_); clear hK5 K5
     refine wp_ret ?_
     refine ret1 rfl (.tmp rfl (show _ = Value.int _ _ from rfl)) ?_
     first
       | (refine ⟨Ka', q', ck', ls', x, 0, rfl, ?_⟩
          rw [if_pos rfl]
          exact ⟨hS.pick [1, 2] rfl rfl, hq', hT, AwsT.step (hS.pick [1, 2] rfl rfl) rfl hsub⟩)
       | (refine ⟨Ka', q', ck', ls', x, z, rfl, ?_⟩
          rw [if_neg hz]
          exact ⟨hS.pick [1, 2] rfl rfl, hq', hT, AwsT.step (hS.pick [1, 2] rfl rfl) rfl hsub⟩)
  try (exfalso; first | with_reducible exact absurd hc0 Bool.false_ne_true | with_reducible exact absurd hc0.symm Bool.false_ne_true | (simp only [nrm] at hc0; omega) | (simp at hc0; done))
  all_goals
   try simp only [nrm] at hc0
   have hz : ¬ z = 0 := by simpa using hc0
   have hsub : ∀ r ∈ ls', r ∈ ls := by
     rcases hT with ⟨k, _, _, rfl, _⟩ | ⟨_, rfl, _⟩
     · exact cutL_mem
     · exact fun r hr => hr
   refine wp_skip ?_
   refine then_n (hK3 _ _ ?_); clear hK3 K3
   refine wp_seq_k ?_; intro K6 hK6
   refine wlit ?_
   refine wl_v (x_move (tmI rfl rfl)) ?_
   refine wl_v (x_assign (tmI rfl rfl)) ?_
   refine wl_nil ?_
   refine then_n (hK6 _ _ ?_); clear hK6 K6
   refine wp_ret ?_
   refine ret1 rfl (.tmp rfl (show _ = Value.int _ _ from rfl)) ?_
   first
     | (refine ⟨Ka', q', ck', ls', x, 0, rfl, ?_⟩
        rw [if_pos rfl]
        exact ⟨hS.pick [1, 2] rfl rfl, hq', hT, AwsT.step (hS.pick [1, 2] rfl rfl) rfl hsub⟩)
     | (refine ⟨Ka', q', ck', ls', x, z, rfl, ?_⟩
        rw [if_neg hz]
        exact ⟨hS.pick [1, 2] rfl rfl, hq', hT, AwsT.step (hS.pick [1, 2] rfl rfl) rfl hsub⟩)

theorem St.awv {F : List Nat} {w0 : World} {M : List Ent} (h : St F w0 M w0) {A : Option Addr} {xs : List Value} (hv : View w0 w0.heap.size A xs) (hb : ∀ b, (Ent.vw A xs).blk? = some b → b ∉ F) : St F w0 (.vw A xs :: M) w0 := by
  refine h.addv hv fun e he => ?_
  cases hr : e.ro with
  | true => exact .inl (by rw [hr]; rfl)
  | false =>
    cases hg : e.blk? with
    | none => exact .inr (.inr (.inl hg))
    | some g1 =>
      cases hb2 : (Ent.vw A xs).blk? with
      | none => exact .inr (.inl hb2)
      | some b2 =>
        refine .inr (.inr (.inr ?_))
        rw [hg, hb2]
        intro he2
        injection he2 with he2
        subst he2
        rcases h.own e he hr _ hg with h1 | h1
        · exact hb _ hb2 h1
        · have := Ent.ok_lt (h.ok e he) hg
          omega
def TwiceP (most : Int) (ls : List GLt) (lost : Nat) (i : Int) (L' : List Sp) (lost' : Nat) (z : Int) : Prop :=
  (∃ k : Nat, i = (k : Int) ∧ k < ls.length ∧ SendP most (ls.map strip) lost (strip (ls.getD k default)) L' lost' z) ∨ (¬ (0 ≤ i ∧ i < (ls.length : Int)) ∧ L' = ls.map strip ∧ lost' = lost ∧ z = 6)
set_option maxRecDepth 100000 in
set_option maxHeartbeats 4000000 in
theorem mtwice_in (gm : Nat) (Ka : Option Addr) (q ck : Nat) (ls : List GLt) (most : Int) (lost : Nat) (k : Nat) (F : List Nat) (w0 : World)
    (hS : St F w0 [.row (.slice Ka q ck) 31 3 q (flat GLt.V ls), .blk gm 52 [.slice Ka q ck, .int .i64 most, .int .i64 (lost : Int)], .vw (ls.getD k default).b.a ((ls.getD k default).b.l.map u8v)] w0)
    (hn4 : (ls.getD k default).b.l.length ≤ 1000) (hq : ls.length = q) (hq4 : q ≤ 1000) (hlost : lost ≤ 1000000) (hk : k < q) :
    Calls Try.prog 15 #[.pointer (some ⟨gm, 0, none⟩), .int .i64 (k : Int)] w0 fun e w' => ∃ Ka' q' ck' ls' lost' z, e = .returned (.int .i64 z) ∧ St F w0 [.row (.slice Ka' q' ck') 31 3 q' (flat GLt.V ls'), .blk gm 52 [.slice Ka' q' ck', .int .i64 most, .int .i64 ((lost' : Nat) : Int)]] w' ∧ ls'.length = q' ∧ SendP most (ls.map strip) lost (strip (ls.getD k default)) (ls'.map strip) lost' z ∧ AwsT F w0 w' [.row (.slice Ka' q' ck') 31 3 q' (flat GLt.V ls'), .blk gm 52 [.slice Ka' q' ck', .int .i64 most, .int .i64 ((lost' : Nat) : Int)]] ls ls' := by
  obtain ⟨gk, rfl⟩ := row_some (hS.rowOk 0 rfl) (by omega)
  refine ent (n := 18) Try.func15 rfl rfl ?_
  refine wp_seq_k ?_; intro K1 hK1
  refine wlit ?_
  refine wl_v (x_assign (ev_cN 0)) ?_
  refine wl_nil ?_
  refine then_n (hK1 _ _ ?_); clear hK1 K1
  refine wp_seq_k ?_; intro K2 hK2
  refine wp_seq_k ?_; intro K3 hK3
  refine wlit ?_
  refine wl_v (x_move (tmP rfl rfl)) ?_
  refine wl_v (x_move (tmI rfl rfl)) ?_
  refine wl_e rfl ?_; intro K hK
  refine ow_call Try.func20 rfl rfl (evs_cons (tmP rfl rfl) <| evs_cons (tmI rfl rfl) <| evs_nil) (mhas_c gm _ q ck most lost k _ (viewB hS.ok 1 rfl)) ?_
  rintro e w ⟨rfl, hk1⟩
  refine ⟨_, rfl, ?_⟩
  replace hS := hS.kept hk1
  clear hk1
  refine hK _ _ ?_; clear hK K
  refine wl_v (x_not (tmB rfl rfl)) ?_
  refine wl_nil ?_
  refine then_n (hK3 _ _ ?_); clear hK3 K3
  refine cnd (tm rfl) (fun hc0 => ?_) (fun hc0 => ?_)
  · exfalso
    simp at hc0
    omega
  try (exfalso; first | with_reducible exact absurd hc0 Bool.false_ne_true | with_reducible exact absurd hc0.symm Bool.false_ne_true | (simp only [nrm] at hc0; omega) | (simp at hc0; done))
  all_goals
   try simp only [nrm] at hc0
   refine wp_skip ?_
   refine then_n (hK2 _ _ ?_); clear hK2 K2
   refine wp_seq_k ?_; intro K4 hK4
   refine wlit ?_
   refine wl_v (x_move (tmP rfl rfl)) ?_
   refine wl_v (x_move (tmP rfl rfl)) ?_
   refine wl_v (x_nil (A := none) (tmP rfl rfl)) ?_
   refine wl_v (x_fa 0 Try.underlying52 rfl rfl ts_50 (tmP rfl rfl)) ?_
   first
    | refine wl_v (x_load Try.underlying50 rfl (tmP rfl rfl) (cellB hS.ok 1 rfl rfl)) ?_
    | refine wl_v (x_load Try.underlying50 rfl (tmP rfl rfl) (cellR hS.ok 0 rfl rfl)) ?_
    | refine wl_v (x_load Try.underlying50 rfl (tmP rfl rfl) (cellR hS.ok 0 rfl (getm (by omega)))) ?_
    | refine wl_v (x_load Try.underlying50 rfl (tmP rfl rfl) (cellRs hS.ok 0 rfl (fun _ => rfl) rfl (by omega) rfl)) ?_
    | refine wl_v (x_load Try.underlying50 rfl (tmP rfl rfl) (cellV hS.ok 2 rfl rfl)) ?_
    | refine wl_v (x_load Try.underlying50 rfl (tmP rfl rfl) (cellV hS.ok 2 rfl (getm (by omega)))) ?_
    | refine wl_v (x_load Try.underlying50 rfl (tmP rfl rfl) (cellVs hS.ok 2 rfl (fun _ => rfl) rfl (by omega) rfl)) ?_
   refine wl_v (x_move (tmI rfl rfl)) ?_
   refine wl_v (x_ixs Try.underlying50 ts_31 (tmS rfl rfl) (tmI rfl rfl) (by omega)) ?_
   refine wl_v (x_loadA (cs := (ls.getD k default).V) Try.underlying31 rfl (by exact ts_31) (tmP rfl rfl) (rangeRs hS.ok 0 rfl GLt.len (by omega))) ?_
   refine wl_e rfl ?_; intro K hK
   refine ow_call Try.func7 rfl rfl (evs_cons (tmP rfl rfl) <| evs_cons (tmA rfl rfl) <| evs_nil) (msend_c gm _ q ck ls most lost (ls.getD k default).node (ls.getD k default).back (ls.getD k default).b.a (ls.getD k default).b.l (ls.getD k default).b.l.length (ls.getD k default).b.c _ _ (hS.enter [0, 1] [2] rfl rfl) rfl hn4 hq hq4 hlost) ?_
   rintro e w ⟨Ka', q', ck', ls', lost', z, rfl, hS2, hq', hP, hA⟩
   refine ⟨_, rfl, ?_⟩
   have hS3 := hS.leave [0, 1] [2] rfl rfl rfl hS2 rfl
   have hA2 : AwsT F w0 w [.row (.slice Ka' q' ck') 31 3 q' (flat GLt.V ls'), .blk gm 52 [.slice Ka' q' ck', .int .i64 most, .int .i64 ((lost' : Nat) : Int)]] ls ls' := by
     intro G hG h
     exact hA G (fun b hb => Nat.lt_of_lt_of_le (hG b hb) hS.kp.size) (AwsT.step (hS.pick [0, 1] rfl rfl) rfl (fun r hr => hr) G hG h)
   replace hS := hS3 --ents row,gm,vx
   clear hS2
   refine hK _ _ ?_; clear hK K
   refine wl_v (x_assign (tmI rfl rfl)) ?_
   refine wl_nil ?_
   refine then_n (hK4 _ _ ?_); clear hK4 K4
   refine wp_ret ?_
   refine ret1 rfl (.tmp rfl (show _ = Value.int _ _ from rfl)) ?_
   exact ⟨Ka', q', ck', ls', lost', z, rfl, hS.pick [0, 1] rfl rfl, hq', hP, hA2⟩

set_option maxRecDepth 100000 in
set_option maxHeartbeats 4000000 in
theorem mtwice_out (gm : Nat) (Ka : Option Addr) (q ck : Nat) (most lost : Int) (i : Int) (w0 : World)
    (hv : View w0 w0.heap.size (some ⟨gm, 0, none⟩) [.slice Ka q ck, .int .i64 most, .int .i64 lost]) (hi : ¬ (0 ≤ i ∧ i < (q : Int))) :
    Calls Try.prog 15 #[.pointer (some ⟨gm, 0, none⟩), .int .i64 i] w0 fun e w' => e = .returned (.int .i64 6) ∧ Kp [] w0 w' := by
  have hS := (St.sv w0).vcons rfl hv
  refine ent (n := 18) Try.func15 rfl rfl ?_
  refine wp_seq_k ?_; intro K1 hK1
  refine wlit ?_
  refine wl_v (x_assign (ev_cN 0)) ?_
  refine wl_nil ?_
  refine then_n (hK1 _ _ ?_); clear hK1 K1
  refine wp_seq_k ?_; intro K2 hK2
  refine wp_seq_k ?_; intro K3 hK3
  refine wlit ?_
  refine wl_v (x_move (tmP rfl rfl)) ?_
  refine wl_v (x_move (tmI rfl rfl)) ?_
  refine wl_e rfl ?_; intro K hK
  refine ow_call Try.func20 rfl rfl (evs_cons (tmP rfl rfl) <| evs_cons (tmI rfl rfl) <| evs_nil) (mhas_c gm _ q ck most lost i _ (viewV hS.ok 0 rfl)) ?_
  rintro e w ⟨rfl, hk1⟩
  refine ⟨_, rfl, ?_⟩
  replace hS := hS.kept hk1
  clear hk1
  refine hK _ _ ?_; clear hK K
  refine wl_v (x_not (tmB rfl rfl)) ?_
  refine wl_nil ?_
  refine then_n (hK3 _ _ ?_); clear hK3 K3
  refine cnds (tm rfl) (fun hc0 => ?_) (fun hc0 => ?_)
  · exfalso
    simp at hc0
    omega
  try (exfalso; first | with_reducible exact absurd hc0 Bool.false_ne_true | with_reducible exact absurd hc0.symm Bool.false_ne_true | (simp only [nrm] at hc0; omega) | (simp at hc0; done))
  all_goals
   try simp only [nrm] at hc0
   refine wp_seq_k ?_; intro K4 hK4
   refine wlit ?_
   refine wl_v (x_assign (ev_cN 6)) ?_
   refine wl_nil ?_
   refine then_n (hK4 _ _ ?_); clear hK4 K4
   refine wp_ret ?_
   refine then_r ?_
   refine ret1 rfl (.tmp rfl (show _ = Value.int _ _ from rfl)) ?_
   exact ⟨rfl, hS.kp⟩
set_option maxRecDepth 100000 in
set_option maxHeartbeats 4000000 in
theorem mtwice_c (gm : Nat) (Ka : Option Addr) (q ck : Nat) (ls : List GLt) (most : Int) (lost : Nat) (i : Int) (F : List Nat) (w0 : World)
    (hS : St F w0 [.row (.slice Ka q ck) 31 3 q (flat GLt.V ls), .blk gm 52 [.slice Ka q ck, .int .i64 most, .int .i64 (lost : Int)]] w0) (haw : Aws w0 F ls)
    (hn4 : ∀ r ∈ ls, r.b.l.length ≤ 1000) (hq : ls.length = q) (hq4 : q ≤ 1000) (hlost : lost ≤ 1000000) :
    Calls Try.prog 15 #[.pointer (some ⟨gm, 0, none⟩), .int .i64 i] w0 fun e w' => ∃ Ka' q' ck' ls' lost' z, e = .returned (.int .i64 z) ∧ St F w0 [.row (.slice Ka' q' ck') 31 3 q' (flat GLt.V ls'), .blk gm 52 [.slice Ka' q' ck', .int .i64 most, .int .i64 ((lost' : Nat) : Int)]] w' ∧ ls'.length = q' ∧ TwiceP most ls lost i (ls'.map strip) lost' z ∧ AwsT F w0 w' [.row (.slice Ka' q' ck') 31 3 q' (flat GLt.V ls'), .blk gm 52 [.slice Ka' q' ck', .int .i64 most, .int .i64 ((lost' : Nat) : Int)]] ls ls' := by
  by_cases h : 0 ≤ i ∧ i < (q : Int)
  · obtain ⟨k, rfl⟩ := Int.eq_ofNat_of_zero_le h.1
    have hkm : ls.getD k default ∈ ls := by
      rw [List.getD_eq_getElem?_getD, List.getElem?_eq_getElem (by omega)]
      exact List.getElem_mem _
    refine (mtwice_in gm Ka q ck ls most lost k F w0 ((hS.awv (haw _ hkm).1 (haw _ hkm).2).pick [1, 2, 0] rfl rfl) (hn4 _ hkm) hq hq4 hlost (by omega)).mono ?_
    rintro e w' ⟨Ka', q', ck', ls', lost', z, rfl, hS2, hq', hP, hA⟩
    exact ⟨Ka', q', ck', ls', lost', z, rfl, hS2, hq', .inl ⟨k, rfl, by omega, hP⟩, hA⟩
  · refine (mtwice_out gm Ka q ck most lost i w0 (viewB hS.ok 1 rfl) h).mono ?_
    rintro e w' ⟨rfl, hk⟩
    exact ⟨Ka, q, ck, ls, lost, 6, rfl, hS.kept hk, hq, .inr ⟨by rw [hq]; exact h, rfl, rfl, rfl⟩, AwsT.step (hS.kept hk) rfl fun r hr => hr⟩
set_option maxRecDepth 100000 in
set_option maxHeartbeats 4000000 in
theorem mlost_c (gm : Nat) (Ka : Option Addr) (q ck : Nat) (most lost : Int) (w0 : World) (hv : View w0 w0.heap.size (some ⟨gm, 0, none⟩) [.slice Ka q ck, .int .i64 most, .int .i64 lost]) :
    Calls Try.prog 18 #[.pointer (some ⟨gm, 0, none⟩)] w0 fun e w' => e = .returned (.int .i64 lost) ∧ Kp [] w0 w' := by
  have hS := (St.sv w0).vcons rfl hv
  refine ent (n := 9) Try.func18 rfl rfl ?_
  refine wp_seq_k ?_; intro K1 hK1
  refine wlit ?_
  refine wl_v (x_assign (ev_cN 0)) ?_
  refine wl_nil ?_
  refine then_n (hK1 _ _ ?_); clear hK1 K1
  refine wp_seq_k ?_; intro K2 hK2
  refine wp_seq_k ?_; intro K3 hK3
  refine wlit ?_
  refine wl_v (x_move (tmP rfl rfl)) ?_
  first
   | refine wl_v (x_peql Try.underlying24 (tmP rfl rfl) ev_c) ?_
   | refine wl_v (x_peqln Try.underlying24 (tmP rfl rfl) ev_c) ?_
  refine wl_nil ?_
  refine then_n (hK3 _ _ ?_); clear hK3 K3
  refine cnd (tm rfl) (fun hc0 => ?_) (fun hc0 => ?_)
  · exfalso
    simp at hc0
  try (exfalso; first | with_reducible exact absurd hc0 Bool.false_ne_true | with_reducible exact absurd hc0.symm Bool.false_ne_true | (simp only [nrm] at hc0; omega) | (simp at hc0; done))
  all_goals
   try simp only [nrm] at hc0
   refine wp_skip ?_
   refine then_n (hK2 _ _ ?_); clear hK2 K2
   refine wp_seq_k ?_; intro K4 hK4
   refine wlit ?_
   refine wl_v (x_move (tmP rfl rfl)) ?_
   refine wl_v (x_nil (A := none) (tmP rfl rfl)) ?_
   refine wl_v (x_fa 2 Try.underlying52 rfl rfl ts_3 (tmP rfl rfl)) ?_
   first
    | refine wl_v (x_load Try.underlying3 rfl (tmP rfl rfl) (cellV hS.ok 0 rfl rfl)) ?_
    | refine wl_v (x_load Try.underlying3 rfl (tmP rfl rfl) (cellV hS.ok 0 rfl (getm (by omega)))) ?_
    | refine wl_v (x_load Try.underlying3 rfl (tmP rfl rfl) (cellVs hS.ok 0 rfl (fun _ => rfl) rfl (by omega) rfl)) ?_
   refine wl_v (x_assign (tmI rfl rfl)) ?_
   refine wl_nil ?_
   refine then_n (hK4 _ _ ?_); clear hK4 K4
   refine wp_ret ?_
   refine ret1 rfl (.tmp rfl (show _ = Value.int _ _ from rfl)) ?_
   exact ⟨rfl, hS.kp⟩
/-! nil -/
set_option maxRecDepth 100000 in
set_option maxHeartbeats 4000000 in
theorem nlen_c (w0 : World) : Calls Try.prog 8 #[.pointer none] w0 fun e w' => e = .returned (.int .i64 0) ∧ Kp [] w0 w' := by
  have hS := St.sv w0
  refine ent (n := 10) Try.func8 rfl rfl ?_
  refine wp_seq_k ?_; intro K1 hK1
  refine wlit ?_
  refine wl_v (x_assign (ev_cN 0)) ?_
  refine wl_nil ?_
  refine then_n (hK1 _ _ ?_); clear hK1 K1
  refine wp_seq_k ?_; intro K2 hK2
  refine wp_seq_k ?_; intro K3 hK3
  refine wlit ?_
  refine wl_v (x_move (tmP rfl rfl)) ?_
  first
   | refine wl_v (x_peql Try.underlying24 (tmP rfl rfl) ev_c) ?_
   | refine wl_v (x_peqln Try.underlying24 (tmP rfl rfl) ev_c) ?_
  refine wl_nil ?_
  refine then_n (hK3 _ _ ?_); clear hK3 K3
  refine cnds (tm rfl) (fun hc0 => ?_) (fun hc0 => ?_)
  · exfalso
    simp at hc0
  try (exfalso; first | with_reducible exact absurd hc0 Bool.false_ne_true | with_reducible exact absurd hc0.symm Bool.false_ne_true | (simp only [nrm] at hc0; omega) | (simp at hc0; done))
  all_goals
   try simp only [nrm] at hc0
   refine wp_seq_k ?_; intro K4 hK4
   refine wlit ?_
   refine wl_v (x_assign (ev_cN 0)) ?_
   refine wl_nil ?_
   refine then_n (hK4 _ _ ?_); clear hK4 K4
   refine wp_ret ?_
   refine then_r ?_
   refine ret1 rfl (.tmp rfl (show _ = Value.int _ _ from rfl)) ?_
   exact ⟨rfl, hS.kp⟩
set_option maxRecDepth 100000 in
set_option maxHeartbeats 4000000 in
theorem nlost_c (w0 : World) : Calls Try.prog 18 #[.pointer none] w0 fun e w' => e = .returned (.int .i64 0) ∧ Kp [] w0 w' := by
  have hS := St.sv w0
  refine ent (n := 9) Try.func18 rfl rfl ?_
  refine wp_seq_k ?_; intro K1 hK1
  refine wlit ?_
  refine wl_v (x_assign (ev_cN 0)) ?_
  refine wl_nil ?_
  refine then_n (hK1 _ _ ?_); clear hK1 K1
  refine wp_seq_k ?_; intro K2 hK2
  refine wp_seq_k ?_; intro K3 hK3
  refine wlit ?_
  refine wl_v (x_move (tmP rfl rfl)) ?_
  first
   | refine wl_v (x_peql Try.underlying24 (tmP rfl rfl) ev_c) ?_
   | refine wl_v (x_peqln Try.underlying24 (tmP rfl rfl) ev_c) ?_
  refine wl_nil ?_
  refine then_n (hK3 _ _ ?_); clear hK3 K3
  refine cnds (tm rfl) (fun hc0 => ?_) (fun hc0 => ?_)
  · exfalso
    simp at hc0
  try (exfalso; first | with_reducible exact absurd hc0 Bool.false_ne_true | with_reducible exact absurd hc0.symm Bool.false_ne_true | (simp only [nrm] at hc0; omega) | (simp at hc0; done))
  all_goals
   try simp only [nrm] at hc0
   refine wp_seq_k ?_; intro K4 hK4
   refine wlit ?_
   refine wl_v (x_assign (ev_cN 0)) ?_
   refine wl_nil ?_
   refine then_n (hK4 _ _ ?_); clear hK4 K4
   refine wp_ret ?_
   refine then_r ?_
   refine ret1 rfl (.tmp rfl (show _ = Value.int _ _ from rfl)) ?_
   exact ⟨rfl, hS.kp⟩
set_option maxRecDepth 100000 in
set_option maxHeartbeats 4000000 in
theorem nclear_c (w0 : World) : Calls Try.prog 9 #[.pointer none, .int .i64 0] w0 fun e w' => e = .returned (.int .i64 0) ∧ Kp [] w0 w' := by
  have hS := St.sv w0
  refine ent (n := 50) Try.func9 rfl rfl ?_
  refine wp_seq_k ?_; intro K1 hK1
  refine wlit ?_
  refine wl_v (x_assign (ev_cN 0)) ?_
  refine wl_nil ?_
  refine then_n (hK1 _ _ ?_); clear hK1 K1
  refine wp_seq_k ?_; intro K2 hK2
  refine wp_seq_k ?_; intro K3 hK3
  refine wlit ?_
  refine wl_v (x_move (tmP rfl rfl)) ?_
  first
   | refine wl_v (x_peql Try.underlying24 (tmP rfl rfl) ev_c) ?_
   | refine wl_v (x_peqln Try.underlying24 (tmP rfl rfl) ev_c) ?_
  refine wl_nil ?_
  refine then_n (hK3 _ _ ?_); clear hK3 K3
  refine cnds (tm rfl) (fun hc0 => ?_) (fun hc0 => ?_)
  · exfalso
    simp at hc0
  try (exfalso; first | with_reducible exact absurd hc0 Bool.false_ne_true | with_reducible exact absurd hc0.symm Bool.false_ne_true | (simp only [nrm] at hc0; omega) | (simp at hc0; done))
  all_goals
   try simp only [nrm] at hc0
   refine wp_seq_k ?_; intro K4 hK4
   refine wlit ?_
   refine wl_v (x_assign (ev_cN 0)) ?_
   refine wl_nil ?_
   refine then_n (hK4 _ _ ?_); clear hK4 K4
   refine wp_ret ?_
   refine then_r ?_
   refine ret1 rfl (.tmp rfl (show _ = Value.int _ _ from rfl)) ?_
   exact ⟨rfl, hS.kp⟩
set_option maxRecDepth 100000 in
set_option maxHeartbeats 4000000 in
theorem nhas_c (w0 : World) : Calls Try.prog 20 #[.pointer none, .int .i64 0] w0 fun e w' => e = .returned (.bool false) ∧ Kp [] w0 w' := by
  have hS := St.sv w0
  refine ent (n := 13) Try.func20 rfl rfl ?_
  refine wp_seq_k ?_; intro K1 hK1
  refine wlit ?_
  refine wl_v (x_assign ev_c) ?_
  refine wl_nil ?_
  refine then_n (hK1 _ _ ?_); clear hK1 K1
  refine wp_seq_k ?_; intro K2 hK2
  refine wlit ?_
  refine wl_v (x_move (tmI rfl rfl)) ?_
  refine wl_v (x_geq (tmI rfl rfl) (ev_cN 0)) ?_
  refine wl_v (x_move (tmB rfl rfl)) ?_
  refine gs_wl (tm (t := 7) rfl) (fun hg1_2 => ?_) (fun hg1_2 => ?_)
  · have hg1_2' := hg1_2; (try simp only [nrm] at hg1_2'); try (exfalso; first | with_reducible exact absurd hg1_2 Bool.false_ne_true | with_reducible exact absurd hg1_2.symm Bool.false_ne_true | omega | (simp at hg1_2; done))
    all_goals
     refine wl_gv (want_y rfl rfl rfl rfl (by rw [hg1_2]; rfl)) (x_move (tmI rfl rfl)) ?_
     refine wl_gv (want_y rfl rfl rfl rfl (by rw [hg1_2]; rfl)) (x_move (tmP rfl rfl)) ?_
     refine wl_g (want_y rfl rfl rfl rfl (by rw [hg1_2]; rfl)) ?_; intro K hK
     refine ow_call Try.func8 rfl rfl (evs_cons (tmP rfl rfl) <| evs_nil) (nlen_c _) ?_
     rintro e w ⟨rfl, hk⟩
     refine ⟨_, rfl, ?_⟩
     replace hS := hS.kept hk
     clear hk
     refine hK _ _ ?_; clear hK K
     refine wl_gv (want_y rfl rfl rfl rfl (by rw [hg1_2]; rfl)) (x_lss (tmI rfl rfl) (tmI rfl rfl)) ?_
     refine wl_v (x_pickT (tmB rfl rfl) hg1_2 (tmB rfl rfl)) ?_
     refine wl_v (x_assign (tmB rfl rfl)) ?_
     refine wl_nil ?_
     refine then_n (hK2 _ _ ?_); clear hK2 K2
     refine wp_ret ?_
     refine ret1 rfl (.tmp rfl (show _ = Value.bool _ from rfl)) ?_
     exact ⟨by simp, hS.kp⟩
  have hg1_2' := hg1_2; (try simp only [nrm] at hg1_2'); try (exfalso; first | with_reducible exact absurd hg1_2 Bool.false_ne_true | with_reducible exact absurd hg1_2.symm Bool.false_ne_true | omega | (simp at hg1_2; done))
  all_goals
   refine wl_s rfl (want_n rfl rfl rfl rfl (by rw [hg1_2]; rfl)) ?_
   refine wl_s rfl (want_n rfl rfl rfl rfl (by rw [hg1_2]; rfl)) ?_
   refine wl_s rfl (want_n rfl rfl rfl rfl (by rw [hg1_2]; rfl)) ?_
   refine wl_s rfl (want_n rfl rfl rfl rfl (by rw [hg1_2]; rfl)) ?_
   refine wl_v (x_pickF (tmB rfl rfl) hg1_2 ev_c) ?_
   refine wl_v (x_assign (tmB rfl rfl)) ?_
   refine wl_nil ?_
   refine then_n (hK2 _ _ ?_); clear hK2 K2
   refine wp_ret ?_
   refine ret1 rfl (.tmp rfl (show _ = Value.bool _ from rfl)) ?_
   exact ⟨by simp, hS.kp⟩
set_option maxRecDepth 100000 in
set_option maxHeartbeats 4000000 in
theorem ntake_c (w0 : World) : Calls Try.prog 10 #[.pointer none, .int .i64 0] w0 fun e w' => e = .returned (.tuple #[.agg #[.int .i64 0, .bool false, .slice none 0 0], .int .i64 6]) ∧ Kp [] w0 w' := by
  have hS := St.sv w0
  refine ent (n := 37) Try.func10 rfl rfl ?_
  refine wp_seq_k ?_; intro K1 hK1
  refine wlit ?_
  refine wl_e rfl ?_; intro K hK
  refine ow_alloc hS tz_31 rfl ?_
  clear hS; intro g0_0 w hg0_0 hS
  refine hK _ _ ?_; clear hK K
  refine wl_v (x_assign (ev_cN 0)) ?_
  refine wl_nil ?_
  refine then_n (hK1 _ _ ?_); clear hK1 K1
  refine wp_seq_k ?_; intro K2 hK2
  refine wp_seq_k ?_; intro K3 hK3
  refine wlit ?_
  refine wl_v (x_move (tmP rfl rfl)) ?_
  refine wl_v (x_move (tmI rfl rfl)) ?_
  refine wl_e rfl ?_; intro K hK
  refine ow_call Try.func20 rfl rfl (evs_cons (tmP rfl rfl) <| evs_cons (tmI rfl rfl) <| evs_nil) (nhas_c _) ?_
  rintro e w ⟨rfl, hk1⟩
  refine ⟨_, rfl, ?_⟩
  replace hS := hS.kept hk1
  clear hk1
  refine hK _ _ ?_; clear hK K
  refine wl_v (x_not (tmB rfl rfl)) ?_
  refine wl_nil ?_
  refine then_n (hK3 _ _ ?_); clear hK3 K3
  refine cnds (tm rfl) (fun hc0 => ?_) (fun hc0 => ?_)
  · exfalso
    simp at hc0
  try (exfalso; first | with_reducible exact absurd hc0 Bool.false_ne_true | with_reducible exact absurd hc0.symm Bool.false_ne_true | (simp only [nrm] at hc0; omega) | (simp at hc0; done))
  all_goals
   try simp only [nrm] at hc0
   refine wp_seq_k ?_; intro K4 hK4
   refine wlit ?_
   refine wl_v (x_build (bc_skip (.int .i64 0) <| bc_skip (.bool false) <| bc_skip (.slice none 0 0) <| bc_nil) (by kernel_rfl)) ?_
   refine wl_e rfl ?_; intro K hK
   refine ow_storeA hS 0 rfl ts_31 (tmP rfl rfl) (tmA rfl rfl) rfl rfl rfl ?_
   clear hS; intro w hS
   try replace hS := St.nm (M' := [.blk _ _ [_, _, _], _]) hS rfl
   refine hK _ _ ?_; clear hK K
   refine wl_v (x_assign (ev_cN 6)) ?_
   refine wl_nil ?_
   refine then_n (hK4 _ _ ?_); clear hK4 K4
   refine wp_ret ?_
   refine then_r ?_
   refine ret2 rfl (.cell rfl rfl (load_rowB (cs := [_, _, _]) hS.ok 0 rfl Try.underlying31 rfl ts_31 rfl)) (.tmp rfl (show _ = Value.int _ _ from rfl)) ?_
   exact ⟨rfl, hS.kp⟩
set_option maxRecDepth 100000 in
set_option maxHeartbeats 4000000 in
theorem ndrop_c (w0 : World) : Calls Try.prog 14 #[.pointer none, .int .i64 0] w0 fun e w' => e = .returned (.int .i64 6) ∧ Kp [] w0 w' := by
  have hS := St.sv w0
  refine ent (n := 23) Try.func14 rfl rfl ?_
  refine wp_seq_k ?_; intro K1 hK1
  refine wlit ?_
  refine wl_v (x_assign (ev_cN 0)) ?_
  refine wl_nil ?_
  refine then_n (hK1 _ _ ?_); clear hK1 K1
  refine wp_seq_k ?_; intro K2 hK2
  refine wlit ?_
  refine wl_v (x_move (tmP rfl rfl)) ?_
  refine wl_v (x_move (tmI rfl rfl)) ?_
  refine wl_e rfl ?_; intro K hK
  refine ow_call Try.func10 rfl rfl (evs_cons (tmP rfl rfl) <| evs_cons (tmI rfl rfl) <| evs_nil) (ntake_c _) ?_
  rintro e w ⟨rfl, hk1⟩
  refine ⟨_, rfl, ?_⟩
  replace hS := hS.kept hk1
  clear hk1
  refine hK _ _ ?_; clear hK K
  refine wl_v (x_move (tmT rfl rfl)) ?_
  refine wl_v (x_ext (tmT rfl rfl) rfl) ?_
  refine wl_v (x_ext (tmT rfl rfl) rfl) ?_
  refine wl_e rfl ?_; intro K hK
  refine ow_alloc hS tz_31 rfl ?_
  clear hS; intro g1_6 w hg1_6 hS
  refine hK _ _ ?_; clear hK K
  refine wl_e rfl ?_; intro K hK
  refine ow_storeA hS 0 rfl ts_31 (tmP rfl rfl) (tmA rfl rfl) rfl rfl rfl ?_
  clear hS; intro w hS
  try replace hS := St.nm (M' := [.blk _ _ [_, _, _], _]) hS rfl
  refine hK _ _ ?_; clear hK K
  refine wl_v (x_assign (tmI rfl rfl)) ?_
  refine wl_nil ?_
  refine then_n (hK2 _ _ ?_); clear hK2 K2
  refine wp_seq_k ?_; intro K3 hK3
  refine wp_seq_k ?_; intro K4 hK4
  refine wlit ?_
  refine wl_v (x_move (tmI rfl rfl)) ?_
  refine wl_v (x_eql (tmI rfl rfl) (ev_cN 0)) ?_
  refine wl_nil ?_
  refine then_n (hK4 _ _ ?_); clear hK4 K4
  refine cnd (tm rfl) (fun hc0 => ?_) (fun hc0 => ?_)
  · exfalso
    simp at hc0
  try (exfalso; first | with_reducible exact absurd hc0 Bool.false_ne_true | with_reducible exact absurd hc0.symm Bool.false_ne_true | (simp only [nrm] at hc0; omega) | (simp at hc0; done))
  all_goals
   try simp only [nrm] at hc0
   refine wp_skip ?_
   refine then_n (hK3 _ _ ?_); clear hK3 K3
   refine wp_seq_k ?_; intro K5 hK5
   refine wlit ?_
   refine wl_v (x_move (tmI rfl rfl)) ?_
   refine wl_v (x_assign (tmI rfl rfl)) ?_
   refine wl_nil ?_
   refine then_n (hK5 _ _ ?_); clear hK5 K5
   refine wp_ret ?_
   refine ret1 rfl (.tmp rfl (show _ = Value.int _ _ from rfl)) ?_
   exact ⟨rfl, hS.kp⟩
set_option maxRecDepth 100000 in
set_option maxHeartbeats 4000000 in
theorem ntwice_c (w0 : World) : Calls Try.prog 15 #[.pointer none, .int .i64 0] w0 fun e w' => e = .returned (.int .i64 6) ∧ Kp [] w0 w' := by
  have hS := St.sv w0
  refine ent (n := 18) Try.func15 rfl rfl ?_
  refine wp_seq_k ?_; intro K1 hK1
  refine wlit ?_
  refine wl_v (x_assign (ev_cN 0)) ?_
  refine wl_nil ?_
  refine then_n (hK1 _ _ ?_); clear hK1 K1
  refine wp_seq_k ?_; intro K2 hK2
  refine wp_seq_k ?_; intro K3 hK3
  refine wlit ?_
  refine wl_v (x_move (tmP rfl rfl)) ?_
  refine wl_v (x_move (tmI rfl rfl)) ?_
  refine wl_e rfl ?_; intro K hK
  refine ow_call Try.func20 rfl rfl (evs_cons (tmP rfl rfl) <| evs_cons (tmI rfl rfl) <| evs_nil) (nhas_c _) ?_
  rintro e w ⟨rfl, hk1⟩
  refine ⟨_, rfl, ?_⟩
  replace hS := hS.kept hk1
  clear hk1
  refine hK _ _ ?_; clear hK K
  refine wl_v (x_not (tmB rfl rfl)) ?_
  refine wl_nil ?_
  refine then_n (hK3 _ _ ?_); clear hK3 K3
  refine cnds (tm rfl) (fun hc0 => ?_) (fun hc0 => ?_)
  · exfalso
    simp at hc0
  try (exfalso; first | with_reducible exact absurd hc0 Bool.false_ne_true | with_reducible exact absurd hc0.symm Bool.false_ne_true | (simp only [nrm] at hc0; omega) | (simp at hc0; done))
  all_goals
   try simp only [nrm] at hc0
   refine wp_seq_k ?_; intro K4 hK4
   refine wlit ?_
   refine wl_v (x_assign (ev_cN 6)) ?_
   refine wl_nil ?_
   refine then_n (hK4 _ _ ?_); clear hK4 K4
   refine wp_ret ?_
   refine then_r ?_
   refine ret1 rfl (.tmp rfl (show _ = Value.int _ _ from rfl)) ?_
   exact ⟨rfl, hS.kp⟩
set_option maxRecDepth 100000 in
set_option maxHeartbeats 4000000 in
theorem nsend_c (w0 : World) : Calls Try.prog 7 #[.pointer none, .agg #[.int .i64 0, .bool false, .slice none 0 0]] w0 fun e w' => e = .returned (.int .i64 3) ∧ Kp [] w0 w' := by
  have hS := St.sv w0
  refine ent (n := 38) Try.func7 rfl rfl ?_
  refine wp_seq_k ?_; intro K1 hK1
  refine wlit ?_
  refine wl_e rfl ?_; intro K hK
  refine ow_box hS (tmA rfl rfl) rfl ?_
  clear hS; intro g0_0 w hg0_0 hS
  refine hK _ _ ?_; clear hK K
  refine wl_v (x_assign (ev_cN 0)) ?_
  refine wl_nil ?_
  refine then_n (hK1 _ _ ?_); clear hK1 K1
  refine wp_seq_k ?_; intro K2 hK2
  refine wp_seq_k ?_; intro K3 hK3
  refine wlit ?_
  refine wl_v (x_move (tmP rfl rfl)) ?_
  first
   | refine wl_v (x_peql Try.underlying24 (tmP rfl rfl) ev_c) ?_
   | refine wl_v (x_peqln Try.underlying24 (tmP rfl rfl) ev_c) ?_
  refine wl_nil ?_
  refine then_n (hK3 _ _ ?_); clear hK3 K3
  refine cnds (tm rfl) (fun hc0 => ?_) (fun hc0 => ?_)
  · exfalso
    simp at hc0
  try (exfalso; first | with_reducible exact absurd hc0 Bool.false_ne_true | with_reducible exact absurd hc0.symm Bool.false_ne_true | (simp only [nrm] at hc0; omega) | (simp at hc0; done))
  all_goals
   try simp only [nrm] at hc0
   refine wp_seq_k ?_; intro K4 hK4
   refine wlit ?_
   refine wl_v (x_assign (ev_cN 3)) ?_
   refine wl_nil ?_
   refine then_n (hK4 _ _ ?_); clear hK4 K4
   refine wp_ret ?_
   refine then_r ?_
   refine ret1 rfl (.tmp rfl (show _ = Value.int _ _ from rfl)) ?_
   exact ⟨rfl, hS.kp⟩
end Go.Proofs.Ytijeegfmfpamkaa
