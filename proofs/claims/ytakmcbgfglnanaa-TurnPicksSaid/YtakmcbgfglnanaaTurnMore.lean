
/- Slices of slices of structs as an argument, and turn's other functions, by contracts. Conditions: none but bounds. -/
import Derived.Test.YtakmcbgfglnanaaTurnAwake
namespace Go.Proofs.Ytakmcbgfglnanaa
open Go.ChangeShapes Go.WideShapes Go.ChangeAt Go.RowKit

section
variable {H : Type} {enc : TypeId × Value → H} {P : Program} {w : World}
/-- The same of a slice that lies in a cell. -/
theorem open_elems_t {t e : TypeId} {fuel : Nat} {cs : List Value} {x : DataW H × List MemPlace} (ht : P.underlying t = some (.slice e)) (hc0 : 0 < P.cellsOf e)
    (hf : DataW.trod enc P w 0 (fun _ => true) true fuel t cs = some x) (hlt : ∀ p ∈ x.2, p.block < w.heap.size) :
    ∃ (A : Option Addr) (n c : Nat) (es : List (List Value)), cs = [.slice A n c] ∧ es.length = n ∧ (A = none → c = 0) ∧ n ≤ c ∧ c ≤ maxLen ∧ View w w.heap.size A es.flatten ∧
      ∀ cs ∈ es, cs.length = P.cellsOf e ∧ ∃ m x, DataW.trod enc P w 0 (fun _ => true) true m e cs = some x ∧ ∀ p ∈ x.2, p.block < w.heap.size := by
  rcases Go.Deep.open_slice ht hf with ⟨hcs, _⟩ | ⟨a, len, cap, m, k, D, Pl, hcs, _, hl, hm, hmm, hx, hi⟩
  · exact ⟨none, 0, 0, [], hcs, rfl, fun _ => rfl, Nat.le_refl _, by simp [maxLen], View.nil_, by simp⟩
  · have hmc : m = cap := by simpa using hmm
    subst hmc
    have hch : ∃ f : Nat → List Value, ∀ i, i < m → w.cells? 0 (a.add (i * P.cellsOf e)) (P.cellsOf e) = some (f i) ∧ DataW.trod enc P w 0 (fun _ => true) true k e (f i) = some (D i, Pl i) := by
      refine ⟨fun i => if h : i < m then (hi i h).choose else [], fun i him => ?_⟩
      simp only [him, dif_pos]
      exact (hi i him).choose_spec
    obtain ⟨f, hfi⟩ := hch
    have hps : x.2 = MemPlace.row a (m * P.cellsOf e) ++ (List.range m).flatMap Pl := by rw [hx]
    refine ⟨some a, len, m, (List.range len).map f, hcs, by simp, (by intro h; cases h), hl, hm, ?_, ?_⟩
    · intro hne
      have hn : 0 < len := by
        rcases len with _ | n
        · simp at hne
        · omega
      have hblk : a.block < w.heap.size := by
        have hpos : 0 < m * P.cellsOf e := Nat.mul_pos (by omega) hc0
        have := hlt (MemPlace.cell a.block a.off) (by rw [hps]; exact List.mem_append_left _ (row_mem a _ hpos))
        simpa [MemPlace.block] using this
      obtain ⟨_, hlen0, hat0⟩ := World.cells?_some (hfi 0 (by omega)).1
      have hspot : a.spot = none := by
        have h0 := hat0 0 hc0
        rw [List.getElem?_eq_getElem (by omega)] at h0
        exact World.cell?_spot (by simpa [Addr.add] using h0)
      obtain ⟨b, o, sp⟩ := a
      simp only at hspot
      subst hspot
      have hadd : ∀ j, (⟨b, o, none⟩ : Addr).add j = ⟨b, o + j, none⟩ := fun j => by
        unfold Addr.add
        split
        · next h0 => subst h0; rfl
        · rfl
      refine ⟨b, o, rfl, hblk, ?_⟩
      have key : ∀ n', n' ≤ m → ∀ j u, (((List.range n').map f).flatten)[j]? = some u → w.cell? ⟨b, o + j, none⟩ = some u := by
        intro n'
        induction n' with
        | zero => intro _ j u hu; simp at hu
        | succ n' ih =>
          intro hn' j u hu
          have hflen : (((List.range n').map f).flatten).length = n' * P.cellsOf e := by
            rw [List.length_flatten, List.map_map]
            have : (List.range n').map (List.length ∘ f) = (List.range n').map (fun _ => P.cellsOf e) := List.map_congr_left fun i hi' => (World.cells?_some (hfi i (by have := List.mem_range.1 hi'; omega)).1).2.1
            rw [this]
            simp [List.map_const', List.sum_replicate_nat]
          rw [List.range_succ, List.map_append, List.flatten_append] at hu
          by_cases hj : j < n' * P.cellsOf e
          · rw [List.getElem?_append_left (by rw [hflen]; exact hj)] at hu
            exact ih (by omega) j u hu
          · rw [List.getElem?_append_right (by rw [hflen]; omega), hflen] at hu
            obtain ⟨_, hl2, hat⟩ := World.cells?_some (hfi n' (by omega)).1
            have hjl : j - n' * P.cellsOf e < P.cellsOf e := by
              rcases Nat.lt_or_ge (j - n' * P.cellsOf e) (P.cellsOf e) with h1 | h1
              · exact h1
              · rw [List.getElem?_eq_none (by simp [hl2]; omega)] at hu; cases hu
            have h2 := hat (j - n' * P.cellsOf e) hjl
            rw [hadd] at h2
            have h3 : (⟨b, o + n' * P.cellsOf e, none⟩ : Addr).add (j - n' * P.cellsOf e) = ⟨b, o + j, none⟩ := by
              unfold Addr.add
              split
              · next h0 => congr 1; omega
              · simp only [Addr.mk.injEq, and_true, true_and]; omega
            rw [h3] at h2
            rw [h2, ← hu]
            simp
      exact key len hl
    · intro cs hcs
      obtain ⟨i, hir, rfl⟩ := List.mem_map.1 hcs
      have hin := List.mem_range.1 hir
      have h1 := hfi i (by omega)
      refine ⟨(World.cells?_some h1.1).2.1, k, _, h1.2, fun p hp => hlt p ?_⟩
      rw [hps]
      exact List.mem_append_right _ (List.mem_flatMap.2 ⟨i, List.mem_range.2 (by omega), hp⟩)

end

theorem flatten_single {α β : Type} (f : α → β) (l : List α) : (l.map fun r => [f r]).flatten = l.map f := by
  induction l with
  | nil => rfl
  | cons a l ih => simp [ih]

/-- A slice's header, its candidates. -/
def candRow (r : Option Addr × List Cd × Nat) : Value := .slice r.1 r.2.1.length r.2.2
def CandRow (w : World) (r : Option Addr × List Cd × Nat) : Prop := r.2.1.length ≤ r.2.2 ∧ r.2.2 ≤ maxLen ∧ View w w.heap.size r.1 (cdsV r.2.1)

theorem cands_t {H : Type} {enc : TypeId × Value → H} {w : World} {fuel : Nat} {cs : List Value} {x : DataW H × List MemPlace}
    (hf : DataW.trod enc Try.prog w 0 (fun _ => true) true fuel 27 cs = some x) (hlt : ∀ p ∈ x.2, p.block < w.heap.size) : ∃ r, cs = [candRow r] ∧ CandRow w r := by
  have hC : Try.prog.cellsOf 137 = 4 := by kernel_rfl
  obtain ⟨A, n, c, es, rfl, hn, hA, hnc, hcm, hv, hes⟩ := open_elems_t Try.underlying27 (by rw [hC]; omega) hf hlt
  obtain ⟨l, rfl, hl⟩ := list_decode Cd.v Cd.ok es (by
    intro cs hcs
    obtain ⟨hl, m, x, ht, _⟩ := hes cs hcs
    rw [hC] at hl
    have hf := struct_fields Try.underlying137 (by kernel_rfl) ht hl
    obtain ⟨v0, y0, k0, h0, t0, _⟩ := hf 0 _ rfl
    obtain ⟨v1, y1, k1, h1, t1, _⟩ := hf 1 _ rfl
    obtain ⟨v2, y2, k2, h2, t2, _⟩ := hf 2 _ rfl
    obtain ⟨v3, y3, k3, h3, t3, _⟩ := hf 3 _ rfl
    obtain ⟨z0, e0, _, z0w⟩ := DataW.trod_int Try.underlying3 t0
    obtain ⟨z1, e1, _, z1w⟩ := DataW.trod_int Try.underlying3 t1
    obtain ⟨z2, e2, _, z2w⟩ := DataW.trod_int Try.underlying3 t2
    obtain ⟨z3, e3, _, z3w⟩ := DataW.trod_int Try.underlying32 t3
    injection e0 with e0; injection e1 with e1; injection e2 with e2; injection e3 with e3
    subst e0; subst e1; subst e2; subst e3
    simp [Lit.wf, IntKind.min, IntKind.max, IntKind.signed, IntKind.bits] at z0w z1w z2w z3w
    refine ⟨⟨z0, z1, z2, z3⟩, ?_, (by unfold Cd.ok; simp only; omega)⟩
    match cs, hl with
    | [c0, c1, c2, c3], _ => simp at h0 h1 h2 h3; rw [h0, h1, h2, h3]; rfl)
  refine ⟨(A, l, c), by simp at hn; rw [← hn]; rfl, by simp at hn; simp; omega, hcm, by rw [cdsV, List.flatMap_def]; exact hv⟩

set_option maxRecDepth 100000 in
/-- Rows of candidates as an argument. -/
theorem open_candss {H : Type} {enc : TypeId × Value → H} {r : Reach} {b0 : Nat} {v : Value} {d : DataW H} {ps : List MemPlace} {w : World}
    (hval : Value.okWide Try.prog w r b0 22 v) (hd : DataW.Trod enc Try.prog w 0 (fun _ => true) true 22 v d ps) (hlt : ∀ x ∈ ps, x.block < w.heap.size) :
    ∃ (A : Option Addr) (c : Nat) (l : List (Option Addr × List Cd × Nat)), v = .slice A l.length c ∧ l.length ≤ c ∧ c ≤ maxLen ∧ View w w.heap.size A (l.map candRow) ∧ ∀ p ∈ l, CandRow w p := by
  have hC : Try.prog.cellsOf 27 = 1 := by kernel_rfl
  obtain ⟨A, n, c, es, rfl, hn, hA, hnc, hcm, hv, hes⟩ := open_elems Try.underlying22 (by rw [hC]; omega) hval hd hlt
  obtain ⟨l, rfl, hl⟩ := list_decode (fun r => [candRow r]) (CandRow w) es (by
    intro cs hcs
    obtain ⟨hl, m, x, ht, hb⟩ := hes cs hcs
    exact cands_t ht hb)
  refine ⟨A, c, l, by simp at hn; rw [hn], by simp at hn; omega, hcm, ?_, hl⟩
  have e := flatten_single candRow l
  rw [e] at hv
  exact hv

set_option maxRecDepth 100000 in
theorem turn_right_c (A : Option Addr) (c : Nat) (l : List Cd) (w : World) (hv : View w w.heap.size A (cdsV l)) (hn : l.length ≤ 1000000) :
    Calls Try.prog 19 #[.slice A l.length c] w fun e w' => e = .returned (.bool (rightB (-1) l)) ∧ Below w.heap.size w w' := by
  go_enter Try.func19, Try.ntmps19
  go_wp2
  go_loopw [3, 8] (fun v i wr => ∃ (k : Nat) (y : Int), k ≤ l.length ∧ i = .int .i64 (k : Int) ∧ v = .int .i64 y ∧ 0 ≤ y ∧ y ≤ 4096 ∧ Hid (rightB (-1) l = rightB (y - 1) (l.drop k)) ∧ Below w.heap.size w wr) (fun _ i _ => l.length - (intOf i).toNat)
  case atStart => exact ⟨0, 0, Nat.zero_le _, rfl, rfl, by omega, by omega, rfl, Below.refl _ _⟩
  case round =>
    obtain ⟨k, y, hk, rfl, rfl, hy0, hy1, hR, hbel⟩ := hrel
    by_cases hlt : k < l.length
    · obtain ⟨p, hp⟩ : ∃ p, l[k]? = some p := ⟨_, List.getElem?_eq_getElem hlt⟩
      obtain ⟨hg0, hg1, hg2, hg3⟩ := cdsV_get l k p hp
      obtain ⟨b, o, rfl, hb, hcell⟩ := (hv.below hbel) (by intro e; rw [e] at hg0; simp at hg0)
      have hc0 := hcell _ _ hg0
      have hc1 := hcell _ _ hg1
      have hc2 := hcell _ _ hg2
      have hc3 := hcell _ _ hg3
      rw [← Nat.add_assoc] at hc1 hc2 hc3
      have hdr : l.drop k = p :: l.drop (k + 1) := by
        rw [List.drop_eq_getElem_cons hlt]
        rw [List.getElem?_eq_getElem hlt] at hp
        injection hp with hp
        rw [hp]
      rw [hdr] at hR
      have hk0 : (0 : Int) ≤ (k : Int) := by omega
      have hk1 : (k : Int) < (l.length : Int) := by omega
      have hbs := hbel.size
      obtain ⟨s, sb, sw, sl⟩ := p
      simp only at hc0 hc1 hc2 hc3
      clear hcell hg0 hg1 hg2 hg3 hp hdr
      have hR2 := Lib.hid (show rightB (-1) l = if s ≤ y - 1 ∨ 4095 < s ∨ sw < 0 ∨ 100 < sw then false else rightB s (l.drop (k + 1)) from hR.out)
      by_cases h1 : s < y
      · have HF := Lib.hid (show rightB (-1) l = false by rw [hR2.out, if_pos (by omega)])
        go_wp2
        go_ret
        rw [HF.out]
        exact ⟨rfl, hbel.alloc hbs _⟩
      by_cases h2 : 4096 ≤ s
      · have HF := Lib.hid (show rightB (-1) l = false by rw [hR2.out, if_pos (by omega)])
        go_wp2
        go_ret
        rw [HF.out]
        exact ⟨rfl, hbel.alloc hbs _⟩
      by_cases h3 : sw < 0
      · have HF := Lib.hid (show rightB (-1) l = false by rw [hR2.out, if_pos (by omega)])
        go_wp2
        go_ret
        rw [HF.out]
        exact ⟨rfl, hbel.alloc hbs _⟩
      by_cases h4 : 100 < sw
      · have HF := Lib.hid (show rightB (-1) l = false by rw [hR2.out, if_pos (by omega)])
        go_wp2
        go_ret
        rw [HF.out]
        exact ⟨rfl, hbel.alloc hbs _⟩
      · have HT := Lib.hid (show rightB (-1) l = rightB (s + 1 - 1) (l.drop (k + 1)) by rw [hR2.out, if_neg (by omega), show s + 1 - 1 = s by omega])
        go_wp2
        go_roundw
        case rel => exact ⟨k + 1, s + 1, by omega, by go_num, rfl, by omega, by omega, HT, hbel.alloc hbs _⟩
        case measure => (simp [intOf] <;> omega)
    · obtain rfl : k = l.length := by omega
      have HF := Lib.hid (show rightB (-1) l = true by rw [hR.out, List.drop_length]; rfl)
      go_wp2
      go_ret
      rw [HF.out]
      exact ⟨rfl, hbel⟩

theorem turn_next_c (g : Nat) (n : Int) (w : World) (h : TurnAt w g n) : Calls Try.prog 23 #[.pointer (some ⟨g, 0, none⟩)] w fun e w' => e = .returned (.int .i64 n) ∧ w = w' := by
  have q0 := h.out.cell 0
  simp only [List.getElem?_cons_zero] at q0
  go_enter Try.func23, Try.ntmps23
  go_wp2
  go_ret
  exact ⟨rfl, rfl⟩
theorem turn_next_nil_c (w : World) : Calls Try.prog 23 #[.pointer none] w fun e w' => e = .returned (.int .i64 0) ∧ w = w' := by
  go_enter Try.func23, Try.ntmps23
  go_wp2
  go_ret
  exact ⟨rfl, rfl⟩
set_option maxRecDepth 100000 in
theorem turn_pick_nil_c (A : Option Addr) (n c : Nat) (w : World) :
    Calls Try.prog 21 #[.pointer none, .slice A n c] w fun e w' => e = .returned (.tuple #[.agg #[.int .i64 0, .int .i64 0, .int .i64 0, .int .u32 0], .bool false]) ∧ Below w.heap.size w w' := by
  go_enter Try.func21, Try.ntmps21
  go_wp2
  refine ret_cand (g := w.heap.size) (v := .bool false) rfl (Arr.new w 34 [.int .i64 0, .int .i64 0, .int .i64 0, .int .u32 0]) rfl rfl rfl rfl rfl rfl rfl ⟨rfl, (Below.refl _ _).alloc (Nat.le_refl _) _⟩

/-- Which one the reference picks. -/
def refPick (l : List Cd) (next : Int) : Int := if l.length = 0 then -1 else (pickN l next : Int)
set_option maxRecDepth 100000 in
theorem ref_pick_c (A : Option Addr) (c : Nat) (l : List Cd) (next : Int) (w : World) (B : Nat) (hv : View w B A (cdsV l)) (hn : l.length ≤ 1000000) (hx : 0 ≤ next ∧ next ≤ 4096) :
    Calls Try.prog 22 #[.slice A l.length c, .int .i64 next] w fun e w' => e = .returned (.int .i64 (refPick l next)) ∧ w = w' := by
  go_enter Try.func22, Try.ntmps22
  go_wp2
  go_loop [5] (fun i => ∃ k : Nat, k ≤ l.length ∧ i = .int .i64 (k : Int) ∧ Hid (∀ j, j < k → (cdAt l j).slot < next)) (fun i => l.length - (intOf i).toNat)
  case atStart => exact ⟨0, Nat.zero_le _, rfl, Lib.hid (fun j hj => absurd hj (by omega))⟩
  case round =>
    obtain ⟨k, hk, rfl, hlo⟩ := hrel
    by_cases hlt : k < l.length
    · have hg := (cdsV_get l k _ (cdAt_get l k hlt)).1
      obtain ⟨b, o, rfl, hb, hcell⟩ := hv (by intro e; rw [e] at hg; simp at hg)
      have hc0 := hcell _ _ hg
      obtain ⟨s, HS⟩ : ∃ s, Hid ((cdAt l k).slot = s) := ⟨_, Lib.hid rfl⟩
      rw [HS.out] at hc0
      have hk0 : (0 : Int) ≤ (k : Int) := by omega
      have hk1 : (k : Int) < (l.length : Int) := by omega
      clear hcell hg
      by_cases hnx : next ≤ s
      · have HP := Lib.hid (show refPick l next = (k : Int) by unfold refPick; rw [if_neg (by omega), pickN_hit l next k hlt hlo.out (by rw [HS.out]; exact hnx)])
        go_wp2
        go_ret
        rw [HP.out]
        exact ⟨rfl, rfl⟩
      · have hlo2 := Lib.hid (show ∀ j, j < k + 1 → (cdAt l j).slot < next from fun j hj => by
          rcases Nat.lt_or_ge j k with h | h
          · exact hlo.out j h
          · obtain rfl : j = k := by omega
            rw [HS.out]; omega)
        go_wp2
        go_round
        case rel => exact ⟨k + 1, by omega, by go_num, hlo2⟩
        case measure => (simp [intOf] <;> omega)
    · by_cases h0 : (0 : Int) < (l.length : Int)
      · have HP := Lib.hid (show refPick l next = 0 by unfold refPick; rw [if_neg (by omega), pickN_none l next (fun j hj => hlo.out j (by omega))]; rfl)
        go_wp2
        go_ret
        rw [HP.out]
        exact ⟨rfl, rfl⟩
      · have HP := Lib.hid (show refPick l next = -1 by unfold refPick; rw [if_pos (by omega)])
        go_wp2
        go_ret
        rw [HP.out]
        exact ⟨rfl, rfl⟩
end Go.Proofs.Ytakmcbgfglnanaa
