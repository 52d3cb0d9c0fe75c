
/- Candidates in memory: four cells each. What Right, To return. Conditions: none but bounds. -/
import Derived.Test.YtakmcbgfglnanaaMath
import Derived.Test.YtakmcbgfglnanaaMem
import Derived.Test.YtakmcbgfglnanaaTypes
import Derived.Test.YtakmcbgfglnanaaProg
import Derived.Test.YtakmcbgfglnanaaReader
import Derived.Test.YtakmcbgfglnanaaAppend
import Derived.Test.YtakmcbgfglnanaaRegion
import Derived.KernelRfl
import Derived.IntWalk
namespace Go.Proofs.Ytakmcbgfglnanaa
open Go.RowKit

structure Cd where
  slot : Int
  backend : Int
  weight : Int
  load : Int
def Cd.v (p : Cd) : List Value := [.int .i64 p.slot, .int .i64 p.backend, .int .i64 p.weight, .int .u32 p.load]
def Cd.ok (p : Cd) : Prop := (-9223372036854775808 ≤ p.slot ∧ p.slot ≤ 9223372036854775807) ∧ (-9223372036854775808 ≤ p.backend ∧ p.backend ≤ 9223372036854775807) ∧ (-9223372036854775808 ≤ p.weight ∧ p.weight ≤ 9223372036854775807) ∧ (0 ≤ p.load ∧ p.load < 4294967296)
def cdsV (l : List Cd) : List Value := l.flatMap Cd.v
theorem cdsV_length (l : List Cd) : (cdsV l).length = l.length * 4 := by
  induction l with
  | nil => rfl
  | cons p l ih => simp [cdsV, Cd.v] at ih ⊢; omega
theorem cdsV_snoc (l : List Cd) (p : Cd) : cdsV (l ++ [p]) = cdsV l ++ p.v := by simp [cdsV]
theorem cdsV_get (l : List Cd) (k : Nat) (p : Cd) (h : l[k]? = some p) : (cdsV l)[k * 4]? = some (.int .i64 p.slot) ∧ (cdsV l)[k * 4 + 1]? = some (.int .i64 p.backend) ∧ (cdsV l)[k * 4 + 2]? = some (.int .i64 p.weight) ∧ (cdsV l)[k * 4 + 3]? = some (.int .u32 p.load) := by
  induction l generalizing k with
  | nil => simp at h
  | cons q l ih =>
    cases k with
    | zero => simp at h; subst h; simp [cdsV, Cd.v]
    | succ k =>
      have := ih k (by simpa using h)
      have e : cdsV (q :: l) = .int .i64 q.slot :: .int .i64 q.backend :: .int .i64 q.weight :: .int .u32 q.load :: cdsV l := rfl
      rw [e, show (k + 1) * 4 = k * 4 + 1 + 1 + 1 + 1 from by omega, show k * 4 + 1 + 1 + 1 + 1 + 1 = k * 4 + 1 + 1 + 1 + 1 + 1 from rfl, show k * 4 + 1 + 1 + 1 + 1 + 2 = k * 4 + 2 + 1 + 1 + 1 + 1 from by omega, show k * 4 + 1 + 1 + 1 + 1 + 3 = k * 4 + 3 + 1 + 1 + 1 + 1 from by omega]
      simpa using this

/-- May these be? -/
def rightB (last : Int) : List Cd → Bool
  | [] => true
  | p :: l => if p.slot ≤ last ∨ 4095 < p.slot ∨ p.weight < 0 ∨ 100 < p.weight then false else rightB p.slot l

set_option maxRecDepth 100000 in
theorem ref_right_c (A : Option Addr) (c : Nat) (l : List Cd) (w : World) (B : Nat) (hv : View w B A (cdsV l)) (hn : l.length ≤ 1000000) :
    Calls Try.prog 20 #[.slice A l.length c] w fun e w' => e = .returned (.bool (rightB (-1) l)) ∧ w = w' := by
  go_enter Try.func20, Try.ntmps20
  go_wp2
  go_loop [3, 4] (fun v i => ∃ (k : Nat) (z : Int), k ≤ l.length ∧ i = .int .i64 (k : Int) ∧ v = .int .i64 z ∧ Hid (rightB (-1) l = rightB z (l.drop k))) (fun _ i => l.length - (intOf i).toNat)
  case atStart => exact ⟨0, -1, Nat.zero_le _, rfl, rfl, rfl⟩
  case round =>
    obtain ⟨k, z, hk, rfl, rfl, hR⟩ := hrel
    by_cases hlt : k < l.length
    · obtain ⟨p, hp⟩ : ∃ p, l[k]? = some p := ⟨_, List.getElem?_eq_getElem hlt⟩
      obtain ⟨hg0, hg1, hg2, hg3⟩ := cdsV_get l k p hp
      obtain ⟨b, o, rfl, hb, hcell⟩ := hv (by intro e; rw [e] at hg0; simp at hg0)
      have hc0 := hcell _ _ hg0
      have hc2 := hcell _ _ hg2
      rw [← Nat.add_assoc] at hc2
      have hdr : l.drop k = p :: l.drop (k + 1) := by
        rw [List.drop_eq_getElem_cons hlt]
        rw [List.getElem?_eq_getElem hlt] at hp
        injection hp with hp
        rw [hp]
      rw [hdr] at hR
      have hk0 : (0 : Int) ≤ (k : Int) := by omega
      have hk1 : (k : Int) < (l.length : Int) := by omega
      obtain ⟨s, sb, sw, sl⟩ := p
      simp only at hc0 hc2
      clear hcell hg0 hg1 hg2 hg3 hp hdr
      by_cases hbad : s ≤ z ∨ 4095 < s ∨ sw < 0 ∨ 100 < sw
      · have HF := Lib.hid (show rightB (-1) l = false by rw [hR.out]; show (if _ then _ else _) = _; rw [if_pos hbad])
        go_wp2
        all_goals (first | (go_ret; rw [HF.out]; exact ⟨rfl, rfl⟩) | (exfalso; omega))
      · have HT := Lib.hid (show rightB (-1) l = rightB s (l.drop (k + 1)) by rw [hR.out]; show (if _ then _ else _) = _; rw [if_neg hbad])
        have h1 : ¬ s ≤ z := by omega
        have h2 : ¬ 4095 < s := by omega
        have h3 : ¬ sw < 0 := by omega
        have h4 : ¬ 100 < sw := by omega
        clear hbad
        go_wp2
        go_round
        case rel => exact ⟨k + 1, s, by omega, by go_num, rfl, HT⟩
        case measure => (simp [intOf] <;> omega)
    · obtain rfl : k = l.length := by omega
      have HF := Lib.hid (show rightB (-1) l = true by rw [hR.out, List.drop_length]; rfl)
      go_wp2
      go_ret
      rw [HF.out]
      exact ⟨rfl, rfl⟩

theorem own_view {w : World} {base : Nat} {t : TypeId} {size n c : Nat} {A : Option Addr} {l : List Value} (h : w.ownsRow base t size (.slice A n c) n l) : View w w.heap.size A l := by
  intro hn
  rcases row_form h with rfl | ⟨g, rfl, _, hg⟩
  · exfalso
    rcases h.2 with ⟨_, h0⟩ | ⟨g, _, _, e0, _⟩
    · have := h.1; rw [h0, Nat.zero_mul] at this; exact hn (List.eq_nil_of_length_eq_zero this)
    · injection e0 with e1; cases e1
  · refine ⟨g, 0, rfl, hg, fun j u hu => ?_⟩
    have := World.ownsRow.cells h (g := g) rfl j u hu
    rw [Nat.zero_add]
    unfold Addr.add at this
    split at this
    · next h0 => subst h0; exact this
    · simpa using this
theorem own_cap {w : World} {base : Nat} {t : TypeId} {size n c : Nat} {A : Option Addr} {l : List Value} (h : w.ownsRow base t size (.slice A n c) n l) : n ≤ c := by
  rcases h.2 with ⟨e0, h0⟩ | ⟨g, cap, cur, e0, _, _, hc, _⟩
  · omega
  · injection e0 with _ _ e3; omega
theorem own_ge {w : World} {base : Nat} {t : TypeId} {size n c : Nat} {A : Option Addr} {l : List Value} (h : w.ownsRow base t size (.slice A n c) n l) : ∀ a, A = some a → base ≤ a.block := by
  intro a ha
  rcases row_form h with h1 | ⟨g, h1, h2, _⟩
  · rw [h1] at ha; cases ha
  · rw [h1] at ha; injection ha with ha; subst ha; exact h2
theorem View.mod {w w' : World} {B g : Nat} {A : Option Addr} {xs : List Value} (h : View w B A xs) (hm : Mod g w w') (hne : ∀ a, A = some a → a.block ≠ g) (hB : B ≤ w.heap.size) : View w' B A xs := by
  intro hn
  obtain ⟨b, o, e, hb, hc⟩ := h hn
  refine ⟨b, o, e, hb, fun j u hu => ?_⟩
  have hbl := hm.block b (by omega) (by intro e2; injection e2 with e2; exact hne _ e e2)
  have := hc j u hu
  rw [← this]
  simp only [World.cell?, hbl]
theorem arr_add {w : World} {g : Nat} {t : TypeId} {l : List Value} (h : Arr w g t l) : ∀ j u, l[j]? = some u → w.cell? ((⟨g, 0, none⟩ : Addr).add j) = some u := by
  intro j u hu
  have := h.cell j
  rw [hu] at this
  unfold Addr.add
  split
  · next h0 => subst h0; exact this
  · simpa using this
theorem candinfo : (Try.prog.info? 34).map (fun i => (i.zero, i.size, i.bytes)) = some (some (.agg #[.int .i64 0, .int .i64 0, .int .i64 0, .int .u32 0]), 4, 32) := by kernel_rfl

set_option maxRecDepth 100000 in
theorem to_c (A : Option Addr) (c : Nat) (l : List Cd) (w : World) (hv : View w w.heap.size A (cdsV l)) (hn : l.length ≤ 1000000) :
    Calls Try.prog 18 #[.slice A l.length c] w fun e w' => ∃ A' c', e = .returned (.slice A' l.length c') ∧ l.length ≤ c' ∧ View w' w'.heap.size A' (cdsV l) ∧ (∀ a, A' = some a → w.heap.size ≤ a.block) ∧ Below w.heap.size w w' := by
  obtain ⟨ci, hi, hz, hsz, hby⟩ := info_parts candinfo
  go_enter Try.func18, Try.ntmps18
  go_wp2
  go_loopw [3, 4] (fun v i wr => ∃ (k : Nat) (A' : Option Addr) (c' : Nat), k ≤ l.length ∧ i = .int .i64 (k : Int) ∧ v = .slice A' k c' ∧ Hid (wr.ownsRow w.heap.size 34 4 (.slice A' k c') k (cdsV (l.take k))) ∧ Below w.heap.size w wr) (fun _ i _ => l.length - (intOf i).toNat)
  case atStart => exact ⟨0, none, 0, Nat.zero_le _, rfl, rfl, World.ownsRow_nil _ _ _ _, Below.refl _ _⟩
  case round =>
    rename_i wr
    obtain ⟨k, A', c', hk, rfl, rfl, hO, hbel⟩ := hrel
    by_cases hlt : k < l.length
    · obtain ⟨p, hp⟩ : ∃ p, l[k]? = some p := ⟨_, List.getElem?_eq_getElem hlt⟩
      obtain ⟨hg0, hg1, hg2, hg3⟩ := cdsV_get l k p hp
      obtain ⟨b, o, rfl, hb, hcell⟩ := (hv.below hbel) (by intro e; rw [e] at hg0; simp at hg0)
      have hc0 := hcell _ _ hg0
      have hc1 := hcell _ _ hg1
      have hc2 := hcell _ _ hg2
      have hc3 := hcell _ _ hg3
      rw [← Nat.add_assoc] at hc1 hc2 hc3
      have HC := Lib.hid (show cdsV (l.take (k + 1)) = cdsV (l.take k) ++ p.v by
        rw [List.getElem?_eq_getElem hlt] at hp
        injection hp with hp
        rw [List.take_succ_eq_append_getElem hlt, hp, cdsV_snoc])
      have hk0 : (0 : Int) ≤ (k : Int) := by omega
      have hk1 : (k : Int) < (l.length : Int) := by omega
      have hws : w.heap.size ≤ wr.heap.size := hbel.size
      obtain ⟨s, sb, sw, sl⟩ := p
      unfold Cd.v at HC
      simp only at hc0 hc1 hc2 hc3
      clear hcell hg0 hg1 hg2 hg3 hp
      go_wp2_with fail
      refine rb_start_at (w.heap.size) (by assumption) (by kernel_rfl) (fun wx hwx hBwx => ?_)
      have hOx := Lib.hid (own_keep hO.out (Mod.of_below (g := wr.heap.size) hwx) (by intro a ha e; injection e with e; have := (World.ownsRow.lt hO.out a (by rw [ha]; rfl)).2; omega))
      have p0 := (hwx.cell (p := ⟨b, o + k * 4, none⟩) (by simp; omega)).trans hc0
      have p1 := (hwx.cell (p := ⟨b, o + k * 4 + 1, none⟩) (by simp; omega)).trans hc1
      have p2 := (hwx.cell (p := ⟨b, o + k * 4 + 2, none⟩) (by simp; omega)).trans hc2
      have p3 := (hwx.cell (p := ⟨b, o + k * 4 + 3, none⟩) (by simp; omega)).trans hc3
      have hbx := hbel.trans (hwx.mono hbel.size)
      refine rb_take 0 (some 11) (v := ?_) rfl rfl (by kernel_rfl) (by kernel_rfl) (by kernel_rfl) (by kernel_rfl) ?_ ?_
      rotate_left
      focus (intro w' hw'; go_simp; try with_reducible rfl)
      try simp only [Act.put, List.setIfInBounds_toArray, List.set_cons_zero, List.set_cons_succ]
      refine rb_take 1 (some 12) (v := ?_) rfl rfl (by kernel_rfl) (by kernel_rfl) (by kernel_rfl) (by kernel_rfl) ?_ ?_
      rotate_left
      focus (intro w' hw'; go_simp; try with_reducible rfl)
      try simp only [Act.put, List.setIfInBounds_toArray, List.set_cons_zero, List.set_cons_succ]
      refine rb_take 2 (some 13) (v := ?_) rfl rfl (by kernel_rfl) (by kernel_rfl) (by kernel_rfl) (by kernel_rfl) ?_ ?_
      rotate_left
      focus (intro w' hw'; go_simp; try with_reducible rfl)
      try simp only [Act.put, List.setIfInBounds_toArray, List.set_cons_zero, List.set_cons_succ]
      refine rb_take 3 (some 14) (v := ?_) rfl rfl (by kernel_rfl) (by kernel_rfl) (by kernel_rfl) (by kernel_rfl) ?_ ?_
      rotate_left
      focus (intro w' hw'; go_simp; try with_reducible rfl)
      try simp only [Act.put, List.setIfInBounds_toArray, List.set_cons_zero, List.set_cons_succ]
      refine rb_take 4 (some 15) (v := ?_) rfl rfl (by kernel_rfl) (by kernel_rfl) (by kernel_rfl) (by kernel_rfl) ?_ ?_
      rotate_left
      focus (intro w' hw'; go_simp; try with_reducible rfl)
      try simp only [Act.put, List.setIfInBounds_toArray, List.set_cons_zero, List.set_cons_succ]
      refine rb_take 5 (some 16) (v := ?_) rfl rfl (by kernel_rfl) (by kernel_rfl) (by kernel_rfl) (by kernel_rfl) ?_ ?_
      rotate_left
      focus (intro w' hw'; have q := (hw'.cell (p := ⟨b, o + k * 4, none⟩) (by simp; omega)).trans p0; go_simp; try with_reducible rfl)
      try simp only [Act.put, List.setIfInBounds_toArray, List.set_cons_zero, List.set_cons_succ]
      refine rb_take 6 (some 17) (v := ?_) rfl rfl (by kernel_rfl) (by kernel_rfl) (by kernel_rfl) (by kernel_rfl) ?_ ?_
      rotate_left
      focus (intro w' hw'; go_simp; try with_reducible rfl)
      try simp only [Act.put, List.setIfInBounds_toArray, List.set_cons_zero, List.set_cons_succ]
      refine rb_take 7 (some 18) (v := ?_) rfl rfl (by kernel_rfl) (by kernel_rfl) (by kernel_rfl) (by kernel_rfl) ?_ ?_
      rotate_left
      focus (intro w' hw'; go_simp; try with_reducible rfl)
      try simp only [Act.put, List.setIfInBounds_toArray, List.set_cons_zero, List.set_cons_succ]
      refine rb_take 8 (some 19) (v := ?_) rfl rfl (by kernel_rfl) (by kernel_rfl) (by kernel_rfl) (by kernel_rfl) ?_ ?_
      rotate_left
      focus (intro w' hw'; go_simp; try with_reducible rfl)
      try simp only [Act.put, List.setIfInBounds_toArray, List.set_cons_zero, List.set_cons_succ]
      refine rb_take 9 (some 20) (v := ?_) rfl rfl (by kernel_rfl) (by kernel_rfl) (by kernel_rfl) (by kernel_rfl) ?_ ?_
      rotate_left
      focus (intro w' hw'; go_simp; try with_reducible rfl)
      try simp only [Act.put, List.setIfInBounds_toArray, List.set_cons_zero, List.set_cons_succ]
      refine rb_take 10 (some 21) (v := ?_) rfl rfl (by kernel_rfl) (by kernel_rfl) (by kernel_rfl) (by kernel_rfl) ?_ ?_
      rotate_left
      focus (intro w' hw'; have q := (hw'.cell (p := ⟨b, o + k * 4 + 1, none⟩) (by simp; omega)).trans p1; go_simp; try with_reducible rfl)
      try simp only [Act.put, List.setIfInBounds_toArray, List.set_cons_zero, List.set_cons_succ]
      refine rb_take 11 (some 22) (v := ?_) rfl rfl (by kernel_rfl) (by kernel_rfl) (by kernel_rfl) (by kernel_rfl) ?_ ?_
      rotate_left
      focus (intro w' hw'; go_simp; try with_reducible rfl)
      try simp only [Act.put, List.setIfInBounds_toArray, List.set_cons_zero, List.set_cons_succ]
      refine rb_take 12 (some 23) (v := ?_) rfl rfl (by kernel_rfl) (by kernel_rfl) (by kernel_rfl) (by kernel_rfl) ?_ ?_
      rotate_left
      focus (intro w' hw'; go_simp; try with_reducible rfl)
      try simp only [Act.put, List.setIfInBounds_toArray, List.set_cons_zero, List.set_cons_succ]
      refine rb_take 13 (some 24) (v := ?_) rfl rfl (by kernel_rfl) (by kernel_rfl) (by kernel_rfl) (by kernel_rfl) ?_ ?_
      rotate_left
      focus (intro w' hw'; go_simp; try with_reducible rfl)
      try simp only [Act.put, List.setIfInBounds_toArray, List.set_cons_zero, List.set_cons_succ]
      refine rb_take 14 (some 25) (v := ?_) rfl rfl (by kernel_rfl) (by kernel_rfl) (by kernel_rfl) (by kernel_rfl) ?_ ?_
      rotate_left
      focus (intro w' hw'; go_simp; try with_reducible rfl)
      try simp only [Act.put, List.setIfInBounds_toArray, List.set_cons_zero, List.set_cons_succ]
      refine rb_take 15 (some 26) (v := ?_) rfl rfl (by kernel_rfl) (by kernel_rfl) (by kernel_rfl) (by kernel_rfl) ?_ ?_
      rotate_left
      focus (intro w' hw'; have q := (hw'.cell (p := ⟨b, o + k * 4 + 2, none⟩) (by simp; omega)).trans p2; go_simp; try with_reducible rfl)
      try simp only [Act.put, List.setIfInBounds_toArray, List.set_cons_zero, List.set_cons_succ]
      refine rb_take 16 (some 27) (v := ?_) rfl rfl (by kernel_rfl) (by kernel_rfl) (by kernel_rfl) (by kernel_rfl) ?_ ?_
      rotate_left
      focus (intro w' hw'; go_simp; try with_reducible rfl)
      try simp only [Act.put, List.setIfInBounds_toArray, List.set_cons_zero, List.set_cons_succ]
      refine rb_take 17 (some 28) (v := ?_) rfl rfl (by kernel_rfl) (by kernel_rfl) (by kernel_rfl) (by kernel_rfl) ?_ ?_
      rotate_left
      focus (intro w' hw'; go_simp; try with_reducible rfl)
      try simp only [Act.put, List.setIfInBounds_toArray, List.set_cons_zero, List.set_cons_succ]
      refine rb_take 18 (some 29) (v := ?_) rfl rfl (by kernel_rfl) (by kernel_rfl) (by kernel_rfl) (by kernel_rfl) ?_ ?_
      rotate_left
      focus (intro w' hw'; go_simp; try with_reducible rfl)
      try simp only [Act.put, List.setIfInBounds_toArray, List.set_cons_zero, List.set_cons_succ]
      refine rb_take 19 (some 30) (v := ?_) rfl rfl (by kernel_rfl) (by kernel_rfl) (by kernel_rfl) (by kernel_rfl) ?_ ?_
      rotate_left
      focus (intro w' hw'; go_simp; try with_reducible rfl)
      try simp only [Act.put, List.setIfInBounds_toArray, List.set_cons_zero, List.set_cons_succ]
      refine rb_take 20 (some 31) (v := ?_) rfl rfl (by kernel_rfl) (by kernel_rfl) (by kernel_rfl) (by kernel_rfl) ?_ ?_
      rotate_left
      focus (intro w' hw'; have q := (hw'.cell (p := ⟨b, o + k * 4 + 3, none⟩) (by simp; omega)).trans p3; go_simp; try with_reducible rfl)
      try simp only [Act.put, List.setIfInBounds_toArray, List.set_cons_zero, List.set_cons_succ]
      refine rb_take 21 (some 32) (v := ?_) rfl rfl (by kernel_rfl) (by kernel_rfl) (by kernel_rfl) (by kernel_rfl) ?_ ?_
      rotate_left
      focus (intro w' hw'; go_simp; try with_reducible rfl)
      try simp only [Act.put, List.setIfInBounds_toArray, List.set_cons_zero, List.set_cons_succ]
      refine rb_keep 22 rfl (by kernel_rfl) (by kernel_rfl) (by first | assumption | exact hBB _ _) (fun K hK => ?_)
      go_simp
      refine hK.out _ _ ((Below.refl _ _).alloc hBwx _) ?_
      clear hK K
      have hB9 : w.heap.size ≤ (wx.alloc (.cells #[.int .i64 s, .int .i64 sb, .int .i64 sw, .int .u32 sl] 34)).heap.size := by simp; omega
      try simp only [Act.put, List.setIfInBounds_toArray, List.set_cons_zero, List.set_cons_succ]
      refine rb_keep 23 rfl (by kernel_rfl) (by kernel_rfl) (by first | assumption | exact hBB _ _) (fun K hK => ?_)
      refine owp_append_at _ _ _ rfl w.heap.size 34 ci _ 4 32 Try.underlying28 hi hz hsz hby rfl (by omega) A' k c' (cdsV (l.take k)) rfl (World.ownsRow.alloc hOx.out _) ⟨wx.heap.size, 0, none⟩ 1 1 [.int .i64 s, .int .i64 sb, .int .i64 sw, .int .u32 sl] rfl rfl (arr_add (Arr.new wx 34 [.int .i64 s, .int .i64 sb, .int .i64 sw, .int .u32 sl])) (by intro v hv; simp at hv; rcases hv with rfl | rfl | rfl | rfl <;> rfl) (by omega) (by unfold maxLen; omega) (by omega) hB9 ?_
      intro ga ca wz hoz hgz hplz hlz
      have hbz := (Below.refl w.heap.size (wx.alloc (.cells #[.int .i64 s, .int .i64 sb, .int .i64 sw, .int .u32 sl] 34))).grown hgz hB9 (by intro k9 hk9; rcases row_form hOx.out with h | ⟨g9, h, h1, _⟩ <;> rw [h] at hk9 <;> simp at hk9; omega)
      refine hK.out _ _ hbz ?_
      clear hK K
      have hB10 : w.heap.size ≤ wz.heap.size := Nat.le_trans hB9 hbz.size
      try simp only [Act.put, List.setIfInBounds_toArray, List.set_cons_zero, List.set_cons_succ]
      refine rb_take 24 (some 3) (v := ?_) rfl rfl (by kernel_rfl) (by kernel_rfl) (by kernel_rfl) (by kernel_rfl) ?_ ?_
      rotate_left
      focus (intro w' hw'; go_simp; try with_reducible rfl)
      try simp only [Act.put, List.setIfInBounds_toArray, List.set_cons_zero, List.set_cons_succ]
      refine rb_done (by first | assumption | exact hBB _ _) (by kernel_rfl) ?_
      go_wp2
      go_roundw
      case rel => exact ⟨k + 1, some ⟨ga, 0, none⟩, ca, by omega, by go_num, rfl, by rw [HC.out]; exact hoz, hbx.trans (((Below.refl _ _).alloc hBwx _).trans hbz)⟩
      case measure => (simp [intOf] <;> omega)
    · obtain rfl : k = l.length := by omega
      rw [List.take_length] at hO
      go_wp2
      go_ret
      exact ⟨A', c', rfl, own_cap hO.out, own_view hO.out, own_ge hO.out, hbel⟩

/-- The candidate at k. -/
def cdAt (l : List Cd) (k : Nat) : Cd := l.getD k ⟨0, 0, 0, 0⟩
/-- Which one of two draws (an index). -/
def twoN (l : List Cd) (a b : Nat) : Nat :=
  let i := a % l.length
  let k := b % l.length
  if (cdAt l i).load < (cdAt l k).load then i else if (cdAt l k).load < (cdAt l i).load then k else min i k
theorem cdAt_get (l : List Cd) (k : Nat) (h : k < l.length) : l[k]? = some (cdAt l k) := by
  unfold cdAt
  rw [List.getD_eq_getElem?_getD, List.getElem?_eq_getElem h]
  rfl

set_option maxRecDepth 100000 in
theorem ref_two_c (A : Option Addr) (c : Nat) (l : List Cd) (a b : Nat) (w : World) (hv : View w w.heap.size A (cdsV l)) (hn : l.length ≤ 1000000) (hn0 : 0 < l.length) (ha : a < 4294967296) (hb : b < 4294967296) :
    Calls Try.prog 75 #[.slice A l.length c, .int .u32 (a : Int), .int .u32 (b : Int)] w fun e w' => e = .returned (.int .i64 (twoN l a b : Nat)) ∧ Below w.heap.size w w' := by
  have ha1 : (0 : Int) ≤ (a : Int) ∧ (a : Int) < 4294967296 := by omega
  have hb1 : (0 : Int) ≤ (b : Int) ∧ (b : Int) < 4294967296 := by omega
  have h2 : ((l.length : Int) == 0) = false := by rw [beq_eq_false_iff_ne]; omega
  have h3 : ¬ l.length = 0 := by omega
  have HA := Lib.hid (show (a : Int).tmod (l.length : Int) = ((a % l.length : Nat) : Int) by rw [Int.tmod_eq_emod_of_nonneg (by omega), ← Int.natCast_emod])
  have HB := Lib.hid (show (b : Int).tmod (l.length : Int) = ((b % l.length : Nat) : Int) by rw [Int.tmod_eq_emod_of_nonneg (by omega), ← Int.natCast_emod])
  have HCA := Lib.hid (show IntKind.i64.wrap (a : Int) = (a : Int) from IntWalk.i64_in _ (by omega))
  have HCB := Lib.hid (show IntKind.i64.wrap (b : Int) = (b : Int) from IntWalk.i64_in _ (by omega))
  have hi : a % l.length < l.length := Nat.mod_lt _ hn0
  have hj : b % l.length < l.length := Nat.mod_lt _ hn0
  have HT := Lib.hid (show twoN l a b = if (cdAt l (a % l.length)).load < (cdAt l (b % l.length)).load then a % l.length else if (cdAt l (b % l.length)).load < (cdAt l (a % l.length)).load then b % l.length else min (a % l.length) (b % l.length) from rfl)
  generalize a % l.length = i at HA HT hi
  generalize b % l.length = j at HB HT hj
  have hgi := cdsV_get l i _ (cdAt_get l i hi)
  have hgj := cdsV_get l j _ (cdAt_get l j hj)
  obtain ⟨bb, o, rfl, hbb, hcell⟩ := hv (by intro e; rw [e] at hgi; simp at hgi)
  have ci := hcell _ _ hgi.2.2.2
  have cj := hcell _ _ hgj.2.2.2
  rw [← Nat.add_assoc] at ci cj
  generalize (cdAt l i).load = x at ci HT
  generalize (cdAt l j).load = y at cj HT
  have hi0 : (0 : Int) ≤ (i : Int) := by omega
  have hj0 : (0 : Int) ≤ (j : Int) := by omega
  have hi1 : (i : Int) < (l.length : Int) := by omega
  have hj1 : (j : Int) < (l.length : Int) := by omega
  clear hcell hgi hgj
  go_enter Try.func75, Try.ntmps75
  go_wp2_with fail
  refine rb_start (by kernel_rfl) (fun wx hwx => ?_)
  have pi := (hwx.cell (p := ⟨bb, o + i * 4 + 3, none⟩) (by simp; omega)).trans ci
  have pj := (hwx.cell (p := ⟨bb, o + j * 4 + 3, none⟩) (by simp; omega)).trans cj
  refine rb_take 0 (some 9) (v := ?_) rfl rfl (by kernel_rfl) (by kernel_rfl) (by kernel_rfl) (by kernel_rfl) ?_ ?_
  rotate_left
  focus (intro w' hw'; go_simp; try with_reducible rfl)
  try simp only [Act.put, List.setIfInBounds_toArray, List.set_cons_zero, List.set_cons_succ]
  refine rb_take 1 (some 10) (v := ?_) rfl rfl (by kernel_rfl) (by kernel_rfl) (by kernel_rfl) (by kernel_rfl) ?_ ?_
  rotate_left
  focus (intro w' hw'; go_simp; first | rw [HCA.out] | with_reducible rfl)
  try simp only [Act.put, List.setIfInBounds_toArray, List.set_cons_zero, List.set_cons_succ]
  refine rb_take 2 (some 11) (v := ?_) rfl rfl (by kernel_rfl) (by kernel_rfl) (by kernel_rfl) (by kernel_rfl) ?_ ?_
  rotate_left
  focus (intro w' hw'; go_simp; try with_reducible rfl)
  try simp only [Act.put, List.setIfInBounds_toArray, List.set_cons_zero, List.set_cons_succ]
  refine rb_take 3 (some 12) (v := ?_) rfl rfl (by kernel_rfl) (by kernel_rfl) (by kernel_rfl) (by kernel_rfl) ?_ ?_
  rotate_left
  focus (intro w' hw'; go_simp; try with_reducible rfl)
  try simp only [Act.put, List.setIfInBounds_toArray, List.set_cons_zero, List.set_cons_succ]
  refine rb_take 4 (some 13) (v := ?_) rfl rfl (by kernel_rfl) (by kernel_rfl) (by kernel_rfl) (by kernel_rfl) ?_ ?_
  rotate_left
  focus (intro w' hw'; go_simp; first | rw [HA.out] | with_reducible rfl)
  try simp only [Act.put, List.setIfInBounds_toArray, List.set_cons_zero, List.set_cons_succ]
  refine rb_take 5 (some 14) (v := ?_) rfl rfl (by kernel_rfl) (by kernel_rfl) (by kernel_rfl) (by kernel_rfl) ?_ ?_
  rotate_left
  focus (intro w' hw'; go_simp; try with_reducible rfl)
  try simp only [Act.put, List.setIfInBounds_toArray, List.set_cons_zero, List.set_cons_succ]
  refine rb_take 6 (some 15) (v := ?_) rfl rfl (by kernel_rfl) (by kernel_rfl) (by kernel_rfl) (by kernel_rfl) ?_ ?_
  rotate_left
  focus (intro w' hw'; go_simp; first | rw [HCB.out] | with_reducible rfl)
  try simp only [Act.put, List.setIfInBounds_toArray, List.set_cons_zero, List.set_cons_succ]
  refine rb_take 7 (some 16) (v := ?_) rfl rfl (by kernel_rfl) (by kernel_rfl) (by kernel_rfl) (by kernel_rfl) ?_ ?_
  rotate_left
  focus (intro w' hw'; go_simp; try with_reducible rfl)
  try simp only [Act.put, List.setIfInBounds_toArray, List.set_cons_zero, List.set_cons_succ]
  refine rb_take 8 (some 17) (v := ?_) rfl rfl (by kernel_rfl) (by kernel_rfl) (by kernel_rfl) (by kernel_rfl) ?_ ?_
  rotate_left
  focus (intro w' hw'; go_simp; try with_reducible rfl)
  try simp only [Act.put, List.setIfInBounds_toArray, List.set_cons_zero, List.set_cons_succ]
  refine rb_take 9 (some 18) (v := ?_) rfl rfl (by kernel_rfl) (by kernel_rfl) (by kernel_rfl) (by kernel_rfl) ?_ ?_
  rotate_left
  focus (intro w' hw'; go_simp; first | rw [HB.out] | with_reducible rfl)
  try simp only [Act.put, List.setIfInBounds_toArray, List.set_cons_zero, List.set_cons_succ]
  refine rb_take 10 (some 7) (v := ?_) rfl rfl (by kernel_rfl) (by kernel_rfl) (by kernel_rfl) (by kernel_rfl) ?_ ?_
  rotate_left
  focus (intro w' hw'; go_simp; try with_reducible rfl)
  try simp only [Act.put, List.setIfInBounds_toArray, List.set_cons_zero, List.set_cons_succ]
  refine rb_take 11 (some 8) (v := ?_) rfl rfl (by kernel_rfl) (by kernel_rfl) (by kernel_rfl) (by kernel_rfl) ?_ ?_
  rotate_left
  focus (intro w' hw'; go_simp; try with_reducible rfl)
  try simp only [Act.put, List.setIfInBounds_toArray, List.set_cons_zero, List.set_cons_succ]
  refine rb_done (Nat.le_refl _) (by kernel_rfl) ?_
  go_wp2_with fail
  by_cases h1 : x < y
  · have HF := Lib.hid (show twoN l a b = i by rw [HT.out, if_pos h1])
    refine rb_start (by kernel_rfl) (fun wy hwy => ?_)
    have pi2 := (hwy.cell (p := ⟨bb, o + i * 4 + 3, none⟩) (by have := hwx.size; simp; omega)).trans pi
    have pj2 := (hwy.cell (p := ⟨bb, o + j * 4 + 3, none⟩) (by have := hwx.size; simp; omega)).trans pj
    have hby := hwx.trans (hwy.mono hwx.size)
    refine rb_take 0 (some 19) (v := ?_) rfl rfl (by kernel_rfl) (by kernel_rfl) (by kernel_rfl) (by kernel_rfl) ?_ ?_
    rotate_left
    focus (intro w' hw'; go_simp; try with_reducible rfl)
    try simp only [Act.put, List.setIfInBounds_toArray, List.set_cons_zero, List.set_cons_succ]
    refine rb_take 1 (some 20) (v := ?_) rfl rfl (by kernel_rfl) (by kernel_rfl) (by kernel_rfl) (by kernel_rfl) ?_ ?_
    rotate_left
    focus (intro w' hw'; go_simp; try with_reducible rfl)
    try simp only [Act.put, List.setIfInBounds_toArray, List.set_cons_zero, List.set_cons_succ]
    refine rb_take 2 (some 21) (v := ?_) rfl rfl (by kernel_rfl) (by kernel_rfl) (by kernel_rfl) (by kernel_rfl) ?_ ?_
    rotate_left
    focus (intro w' hw'; go_simp; try with_reducible rfl)
    try simp only [Act.put, List.setIfInBounds_toArray, List.set_cons_zero, List.set_cons_succ]
    refine rb_take 3 (some 22) (v := ?_) rfl rfl (by kernel_rfl) (by kernel_rfl) (by kernel_rfl) (by kernel_rfl) ?_ ?_
    rotate_left
    focus (intro w' hw'; go_simp; try with_reducible rfl)
    try simp only [Act.put, List.setIfInBounds_toArray, List.set_cons_zero, List.set_cons_succ]
    refine rb_take 4 (some 23) (v := ?_) rfl rfl (by kernel_rfl) (by kernel_rfl) (by kernel_rfl) (by kernel_rfl) ?_ ?_
    rotate_left
    focus (intro w' hw'; have q := (hw'.cell (p := ⟨bb, o + i * 4 + 3, none⟩) (by have := hby.size; simp; omega)).trans pi2; go_simp; try with_reducible rfl)
    try simp only [Act.put, List.setIfInBounds_toArray, List.set_cons_zero, List.set_cons_succ]
    refine rb_take 5 (some 24) (v := ?_) rfl rfl (by kernel_rfl) (by kernel_rfl) (by kernel_rfl) (by kernel_rfl) ?_ ?_
    rotate_left
    focus (intro w' hw'; go_simp; try with_reducible rfl)
    try simp only [Act.put, List.setIfInBounds_toArray, List.set_cons_zero, List.set_cons_succ]
    refine rb_take 6 (some 25) (v := ?_) rfl rfl (by kernel_rfl) (by kernel_rfl) (by kernel_rfl) (by kernel_rfl) ?_ ?_
    rotate_left
    focus (intro w' hw'; go_simp; try with_reducible rfl)
    try simp only [Act.put, List.setIfInBounds_toArray, List.set_cons_zero, List.set_cons_succ]
    refine rb_take 7 (some 26) (v := ?_) rfl rfl (by kernel_rfl) (by kernel_rfl) (by kernel_rfl) (by kernel_rfl) ?_ ?_
    rotate_left
    focus (intro w' hw'; go_simp; try with_reducible rfl)
    try simp only [Act.put, List.setIfInBounds_toArray, List.set_cons_zero, List.set_cons_succ]
    refine rb_take 8 (some 27) (v := ?_) rfl rfl (by kernel_rfl) (by kernel_rfl) (by kernel_rfl) (by kernel_rfl) ?_ ?_
    rotate_left
    focus (intro w' hw'; go_simp; try with_reducible rfl)
    try simp only [Act.put, List.setIfInBounds_toArray, List.set_cons_zero, List.set_cons_succ]
    refine rb_take 9 (some 28) (v := ?_) rfl rfl (by kernel_rfl) (by kernel_rfl) (by kernel_rfl) (by kernel_rfl) ?_ ?_
    rotate_left
    focus (intro w' hw'; have q := (hw'.cell (p := ⟨bb, o + j * 4 + 3, none⟩) (by have := hby.size; simp; omega)).trans pj2; go_simp; try with_reducible rfl)
    try simp only [Act.put, List.setIfInBounds_toArray, List.set_cons_zero, List.set_cons_succ]
    refine rb_take 10 (some 29) (v := ?_) rfl rfl (by kernel_rfl) (by kernel_rfl) (by kernel_rfl) (by kernel_rfl) ?_ ?_
    rotate_left
    focus (intro w' hw'; go_simp; try with_reducible rfl)
    try simp only [Act.put, List.setIfInBounds_toArray, List.set_cons_zero, List.set_cons_succ]
    refine rb_done (Nat.le_refl _) (by kernel_rfl) ?_
    go_wp2
    go_ret
    exact ⟨by rw [HF.out]; rfl, hby⟩
  · have HT2 := Lib.hid (show twoN l a b = if y < x then j else min i j by rw [HT.out, if_neg h1])
    refine rb_start (by kernel_rfl) (fun wy hwy => ?_)
    have pi2 := (hwy.cell (p := ⟨bb, o + i * 4 + 3, none⟩) (by have := hwx.size; simp; omega)).trans pi
    have pj2 := (hwy.cell (p := ⟨bb, o + j * 4 + 3, none⟩) (by have := hwx.size; simp; omega)).trans pj
    have hby := hwx.trans (hwy.mono hwx.size)
    refine rb_take 0 (some 19) (v := ?_) rfl rfl (by kernel_rfl) (by kernel_rfl) (by kernel_rfl) (by kernel_rfl) ?_ ?_
    rotate_left
    focus (intro w' hw'; go_simp; try with_reducible rfl)
    try simp only [Act.put, List.setIfInBounds_toArray, List.set_cons_zero, List.set_cons_succ]
    refine rb_take 1 (some 20) (v := ?_) rfl rfl (by kernel_rfl) (by kernel_rfl) (by kernel_rfl) (by kernel_rfl) ?_ ?_
    rotate_left
    focus (intro w' hw'; go_simp; try with_reducible rfl)
    try simp only [Act.put, List.setIfInBounds_toArray, List.set_cons_zero, List.set_cons_succ]
    refine rb_take 2 (some 21) (v := ?_) rfl rfl (by kernel_rfl) (by kernel_rfl) (by kernel_rfl) (by kernel_rfl) ?_ ?_
    rotate_left
    focus (intro w' hw'; go_simp; try with_reducible rfl)
    try simp only [Act.put, List.setIfInBounds_toArray, List.set_cons_zero, List.set_cons_succ]
    refine rb_take 3 (some 22) (v := ?_) rfl rfl (by kernel_rfl) (by kernel_rfl) (by kernel_rfl) (by kernel_rfl) ?_ ?_
    rotate_left
    focus (intro w' hw'; go_simp; try with_reducible rfl)
    try simp only [Act.put, List.setIfInBounds_toArray, List.set_cons_zero, List.set_cons_succ]
    refine rb_take 4 (some 23) (v := ?_) rfl rfl (by kernel_rfl) (by kernel_rfl) (by kernel_rfl) (by kernel_rfl) ?_ ?_
    rotate_left
    focus (intro w' hw'; have q := (hw'.cell (p := ⟨bb, o + i * 4 + 3, none⟩) (by have := hby.size; simp; omega)).trans pi2; go_simp; try with_reducible rfl)
    try simp only [Act.put, List.setIfInBounds_toArray, List.set_cons_zero, List.set_cons_succ]
    refine rb_take 5 (some 24) (v := ?_) rfl rfl (by kernel_rfl) (by kernel_rfl) (by kernel_rfl) (by kernel_rfl) ?_ ?_
    rotate_left
    focus (intro w' hw'; go_simp; try with_reducible rfl)
    try simp only [Act.put, List.setIfInBounds_toArray, List.set_cons_zero, List.set_cons_succ]
    refine rb_take 6 (some 25) (v := ?_) rfl rfl (by kernel_rfl) (by kernel_rfl) (by kernel_rfl) (by kernel_rfl) ?_ ?_
    rotate_left
    focus (intro w' hw'; go_simp; try with_reducible rfl)
    try simp only [Act.put, List.setIfInBounds_toArray, List.set_cons_zero, List.set_cons_succ]
    refine rb_take 7 (some 26) (v := ?_) rfl rfl (by kernel_rfl) (by kernel_rfl) (by kernel_rfl) (by kernel_rfl) ?_ ?_
    rotate_left
    focus (intro w' hw'; go_simp; try with_reducible rfl)
    try simp only [Act.put, List.setIfInBounds_toArray, List.set_cons_zero, List.set_cons_succ]
    refine rb_take 8 (some 27) (v := ?_) rfl rfl (by kernel_rfl) (by kernel_rfl) (by kernel_rfl) (by kernel_rfl) ?_ ?_
    rotate_left
    focus (intro w' hw'; go_simp; try with_reducible rfl)
    try simp only [Act.put, List.setIfInBounds_toArray, List.set_cons_zero, List.set_cons_succ]
    refine rb_take 9 (some 28) (v := ?_) rfl rfl (by kernel_rfl) (by kernel_rfl) (by kernel_rfl) (by kernel_rfl) ?_ ?_
    rotate_left
    focus (intro w' hw'; have q := (hw'.cell (p := ⟨bb, o + j * 4 + 3, none⟩) (by have := hby.size; simp; omega)).trans pj2; go_simp; try with_reducible rfl)
    try simp only [Act.put, List.setIfInBounds_toArray, List.set_cons_zero, List.set_cons_succ]
    refine rb_take 10 (some 29) (v := ?_) rfl rfl (by kernel_rfl) (by kernel_rfl) (by kernel_rfl) (by kernel_rfl) ?_ ?_
    rotate_left
    focus (intro w' hw'; go_simp; try with_reducible rfl)
    try simp only [Act.put, List.setIfInBounds_toArray, List.set_cons_zero, List.set_cons_succ]
    refine rb_done (Nat.le_refl _) (by kernel_rfl) ?_
    go_wp2_with fail
    by_cases h2 : y < x
    · have HF := Lib.hid (show twoN l a b = j by rw [HT2.out, if_pos h2])
      refine rb_start (by kernel_rfl) (fun wz hwz => ?_)
      have pi3 := (hwz.cell (p := ⟨bb, o + i * 4 + 3, none⟩) (by have := hby.size; simp; omega)).trans pi2
      have pj3 := (hwz.cell (p := ⟨bb, o + j * 4 + 3, none⟩) (by have := hby.size; simp; omega)).trans pj2
      have hbz := hby.trans (hwz.mono hby.size)
      refine rb_take 0 (some 31) (v := ?_) rfl rfl (by kernel_rfl) (by kernel_rfl) (by kernel_rfl) (by kernel_rfl) ?_ ?_
      rotate_left
      focus (intro w' hw'; go_simp; try with_reducible rfl)
      try simp only [Act.put, List.setIfInBounds_toArray, List.set_cons_zero, List.set_cons_succ]
      refine rb_take 1 (some 32) (v := ?_) rfl rfl (by kernel_rfl) (by kernel_rfl) (by kernel_rfl) (by kernel_rfl) ?_ ?_
      rotate_left
      focus (intro w' hw'; go_simp; try with_reducible rfl)
      try simp only [Act.put, List.setIfInBounds_toArray, List.set_cons_zero, List.set_cons_succ]
      refine rb_take 2 (some 33) (v := ?_) rfl rfl (by kernel_rfl) (by kernel_rfl) (by kernel_rfl) (by kernel_rfl) ?_ ?_
      rotate_left
      focus (intro w' hw'; go_simp; try with_reducible rfl)
      try simp only [Act.put, List.setIfInBounds_toArray, List.set_cons_zero, List.set_cons_succ]
      refine rb_take 3 (some 34) (v := ?_) rfl rfl (by kernel_rfl) (by kernel_rfl) (by kernel_rfl) (by kernel_rfl) ?_ ?_
      rotate_left
      focus (intro w' hw'; go_simp; try with_reducible rfl)
      try simp only [Act.put, List.setIfInBounds_toArray, List.set_cons_zero, List.set_cons_succ]
      refine rb_take 4 (some 35) (v := ?_) rfl rfl (by kernel_rfl) (by kernel_rfl) (by kernel_rfl) (by kernel_rfl) ?_ ?_
      rotate_left
      focus (intro w' hw'; have q := (hw'.cell (p := ⟨bb, o + j * 4 + 3, none⟩) (by have := hbz.size; simp; omega)).trans pj3; go_simp; try with_reducible rfl)
      try simp only [Act.put, List.setIfInBounds_toArray, List.set_cons_zero, List.set_cons_succ]
      refine rb_take 5 (some 36) (v := ?_) rfl rfl (by kernel_rfl) (by kernel_rfl) (by kernel_rfl) (by kernel_rfl) ?_ ?_
      rotate_left
      focus (intro w' hw'; go_simp; try with_reducible rfl)
      try simp only [Act.put, List.setIfInBounds_toArray, List.set_cons_zero, List.set_cons_succ]
      refine rb_take 6 (some 37) (v := ?_) rfl rfl (by kernel_rfl) (by kernel_rfl) (by kernel_rfl) (by kernel_rfl) ?_ ?_
      rotate_left
      focus (intro w' hw'; go_simp; try with_reducible rfl)
      try simp only [Act.put, List.setIfInBounds_toArray, List.set_cons_zero, List.set_cons_succ]
      refine rb_take 7 (some 38) (v := ?_) rfl rfl (by kernel_rfl) (by kernel_rfl) (by kernel_rfl) (by kernel_rfl) ?_ ?_
      rotate_left
      focus (intro w' hw'; go_simp; try with_reducible rfl)
      try simp only [Act.put, List.setIfInBounds_toArray, List.set_cons_zero, List.set_cons_succ]
      refine rb_take 8 (some 39) (v := ?_) rfl rfl (by kernel_rfl) (by kernel_rfl) (by kernel_rfl) (by kernel_rfl) ?_ ?_
      rotate_left
      focus (intro w' hw'; go_simp; try with_reducible rfl)
      try simp only [Act.put, List.setIfInBounds_toArray, List.set_cons_zero, List.set_cons_succ]
      refine rb_take 9 (some 40) (v := ?_) rfl rfl (by kernel_rfl) (by kernel_rfl) (by kernel_rfl) (by kernel_rfl) ?_ ?_
      rotate_left
      focus (intro w' hw'; have q := (hw'.cell (p := ⟨bb, o + i * 4 + 3, none⟩) (by have := hbz.size; simp; omega)).trans pi3; go_simp; try with_reducible rfl)
      try simp only [Act.put, List.setIfInBounds_toArray, List.set_cons_zero, List.set_cons_succ]
      refine rb_take 10 (some 41) (v := ?_) rfl rfl (by kernel_rfl) (by kernel_rfl) (by kernel_rfl) (by kernel_rfl) ?_ ?_
      rotate_left
      focus (intro w' hw'; go_simp; try with_reducible rfl)
      try simp only [Act.put, List.setIfInBounds_toArray, List.set_cons_zero, List.set_cons_succ]
      refine rb_done (Nat.le_refl _) (by kernel_rfl) ?_
      go_wp2
      go_ret
      exact ⟨by rw [HF.out]; rfl, hbz⟩
    · have HF := Lib.hid (show twoN l a b = min i j by rw [HT2.out, if_neg h2])
      by_cases h4 : (j : Int) < (i : Int)
      · have HG := Lib.hid (show min i j = j by omega)
        refine rb_start (by kernel_rfl) (fun wz hwz => ?_)
        have pi3 := (hwz.cell (p := ⟨bb, o + i * 4 + 3, none⟩) (by have := hby.size; simp; omega)).trans pi2
        have pj3 := (hwz.cell (p := ⟨bb, o + j * 4 + 3, none⟩) (by have := hby.size; simp; omega)).trans pj2
        have hbz := hby.trans (hwz.mono hby.size)
        refine rb_take 0 (some 31) (v := ?_) rfl rfl (by kernel_rfl) (by kernel_rfl) (by kernel_rfl) (by kernel_rfl) ?_ ?_
        rotate_left
        focus (intro w' hw'; go_simp; try with_reducible rfl)
        try simp only [Act.put, List.setIfInBounds_toArray, List.set_cons_zero, List.set_cons_succ]
        refine rb_take 1 (some 32) (v := ?_) rfl rfl (by kernel_rfl) (by kernel_rfl) (by kernel_rfl) (by kernel_rfl) ?_ ?_
        rotate_left
        focus (intro w' hw'; go_simp; try with_reducible rfl)
        try simp only [Act.put, List.setIfInBounds_toArray, List.set_cons_zero, List.set_cons_succ]
        refine rb_take 2 (some 33) (v := ?_) rfl rfl (by kernel_rfl) (by kernel_rfl) (by kernel_rfl) (by kernel_rfl) ?_ ?_
        rotate_left
        focus (intro w' hw'; go_simp; try with_reducible rfl)
        try simp only [Act.put, List.setIfInBounds_toArray, List.set_cons_zero, List.set_cons_succ]
        refine rb_take 3 (some 34) (v := ?_) rfl rfl (by kernel_rfl) (by kernel_rfl) (by kernel_rfl) (by kernel_rfl) ?_ ?_
        rotate_left
        focus (intro w' hw'; go_simp; try with_reducible rfl)
        try simp only [Act.put, List.setIfInBounds_toArray, List.set_cons_zero, List.set_cons_succ]
        refine rb_take 4 (some 35) (v := ?_) rfl rfl (by kernel_rfl) (by kernel_rfl) (by kernel_rfl) (by kernel_rfl) ?_ ?_
        rotate_left
        focus (intro w' hw'; have q := (hw'.cell (p := ⟨bb, o + j * 4 + 3, none⟩) (by have := hbz.size; simp; omega)).trans pj3; go_simp; try with_reducible rfl)
        try simp only [Act.put, List.setIfInBounds_toArray, List.set_cons_zero, List.set_cons_succ]
        refine rb_take 5 (some 36) (v := ?_) rfl rfl (by kernel_rfl) (by kernel_rfl) (by kernel_rfl) (by kernel_rfl) ?_ ?_
        rotate_left
        focus (intro w' hw'; go_simp; try with_reducible rfl)
        try simp only [Act.put, List.setIfInBounds_toArray, List.set_cons_zero, List.set_cons_succ]
        refine rb_take 6 (some 37) (v := ?_) rfl rfl (by kernel_rfl) (by kernel_rfl) (by kernel_rfl) (by kernel_rfl) ?_ ?_
        rotate_left
        focus (intro w' hw'; go_simp; try with_reducible rfl)
        try simp only [Act.put, List.setIfInBounds_toArray, List.set_cons_zero, List.set_cons_succ]
        refine rb_take 7 (some 38) (v := ?_) rfl rfl (by kernel_rfl) (by kernel_rfl) (by kernel_rfl) (by kernel_rfl) ?_ ?_
        rotate_left
        focus (intro w' hw'; go_simp; try with_reducible rfl)
        try simp only [Act.put, List.setIfInBounds_toArray, List.set_cons_zero, List.set_cons_succ]
        refine rb_take 8 (some 39) (v := ?_) rfl rfl (by kernel_rfl) (by kernel_rfl) (by kernel_rfl) (by kernel_rfl) ?_ ?_
        rotate_left
        focus (intro w' hw'; go_simp; try with_reducible rfl)
        try simp only [Act.put, List.setIfInBounds_toArray, List.set_cons_zero, List.set_cons_succ]
        refine rb_take 9 (some 40) (v := ?_) rfl rfl (by kernel_rfl) (by kernel_rfl) (by kernel_rfl) (by kernel_rfl) ?_ ?_
        rotate_left
        focus (intro w' hw'; have q := (hw'.cell (p := ⟨bb, o + i * 4 + 3, none⟩) (by have := hbz.size; simp; omega)).trans pi3; go_simp; try with_reducible rfl)
        try simp only [Act.put, List.setIfInBounds_toArray, List.set_cons_zero, List.set_cons_succ]
        refine rb_take 10 (some 41) (v := ?_) rfl rfl (by kernel_rfl) (by kernel_rfl) (by kernel_rfl) (by kernel_rfl) ?_ ?_
        rotate_left
        focus (intro w' hw'; go_simp; try with_reducible rfl)
        try simp only [Act.put, List.setIfInBounds_toArray, List.set_cons_zero, List.set_cons_succ]
        refine rb_done (Nat.le_refl _) (by kernel_rfl) ?_
        go_wp2
        go_ret
        exact ⟨by rw [HF.out, HG.out]; rfl, hbz⟩
      · have HG := Lib.hid (show min i j = i by omega)
        refine rb_start (by kernel_rfl) (fun wz hwz => ?_)
        have pi3 := (hwz.cell (p := ⟨bb, o + i * 4 + 3, none⟩) (by have := hby.size; simp; omega)).trans pi2
        have pj3 := (hwz.cell (p := ⟨bb, o + j * 4 + 3, none⟩) (by have := hby.size; simp; omega)).trans pj2
        have hbz := hby.trans (hwz.mono hby.size)
        refine rb_take 0 (some 31) (v := ?_) rfl rfl (by kernel_rfl) (by kernel_rfl) (by kernel_rfl) (by kernel_rfl) ?_ ?_
        rotate_left
        focus (intro w' hw'; go_simp; try with_reducible rfl)
        try simp only [Act.put, List.setIfInBounds_toArray, List.set_cons_zero, List.set_cons_succ]
        refine rb_take 1 (some 32) (v := ?_) rfl rfl (by kernel_rfl) (by kernel_rfl) (by kernel_rfl) (by kernel_rfl) ?_ ?_
        rotate_left
        focus (intro w' hw'; go_simp; try with_reducible rfl)
        try simp only [Act.put, List.setIfInBounds_toArray, List.set_cons_zero, List.set_cons_succ]
        refine rb_take 2 (some 33) (v := ?_) rfl rfl (by kernel_rfl) (by kernel_rfl) (by kernel_rfl) (by kernel_rfl) ?_ ?_
        rotate_left
        focus (intro w' hw'; go_simp; try with_reducible rfl)
        try simp only [Act.put, List.setIfInBounds_toArray, List.set_cons_zero, List.set_cons_succ]
        refine rb_take 3 (some 34) (v := ?_) rfl rfl (by kernel_rfl) (by kernel_rfl) (by kernel_rfl) (by kernel_rfl) ?_ ?_
        rotate_left
        focus (intro w' hw'; go_simp; try with_reducible rfl)
        try simp only [Act.put, List.setIfInBounds_toArray, List.set_cons_zero, List.set_cons_succ]
        refine rb_take 4 (some 35) (v := ?_) rfl rfl (by kernel_rfl) (by kernel_rfl) (by kernel_rfl) (by kernel_rfl) ?_ ?_
        rotate_left
        focus (intro w' hw'; have q := (hw'.cell (p := ⟨bb, o + j * 4 + 3, none⟩) (by have := hbz.size; simp; omega)).trans pj3; go_simp; try with_reducible rfl)
        try simp only [Act.put, List.setIfInBounds_toArray, List.set_cons_zero, List.set_cons_succ]
        refine rb_take 5 (some 36) (v := ?_) rfl rfl (by kernel_rfl) (by kernel_rfl) (by kernel_rfl) (by kernel_rfl) ?_ ?_
        rotate_left
        focus (intro w' hw'; go_simp; try with_reducible rfl)
        try simp only [Act.put, List.setIfInBounds_toArray, List.set_cons_zero, List.set_cons_succ]
        refine rb_take 6 (some 37) (v := ?_) rfl rfl (by kernel_rfl) (by kernel_rfl) (by kernel_rfl) (by kernel_rfl) ?_ ?_
        rotate_left
        focus (intro w' hw'; go_simp; try with_reducible rfl)
        try simp only [Act.put, List.setIfInBounds_toArray, List.set_cons_zero, List.set_cons_succ]
        refine rb_take 7 (some 38) (v := ?_) rfl rfl (by kernel_rfl) (by kernel_rfl) (by kernel_rfl) (by kernel_rfl) ?_ ?_
        rotate_left
        focus (intro w' hw'; go_simp; try with_reducible rfl)
        try simp only [Act.put, List.setIfInBounds_toArray, List.set_cons_zero, List.set_cons_succ]
        refine rb_take 8 (some 39) (v := ?_) rfl rfl (by kernel_rfl) (by kernel_rfl) (by kernel_rfl) (by kernel_rfl) ?_ ?_
        rotate_left
        focus (intro w' hw'; go_simp; try with_reducible rfl)
        try simp only [Act.put, List.setIfInBounds_toArray, List.set_cons_zero, List.set_cons_succ]
        refine rb_take 9 (some 40) (v := ?_) rfl rfl (by kernel_rfl) (by kernel_rfl) (by kernel_rfl) (by kernel_rfl) ?_ ?_
        rotate_left
        focus (intro w' hw'; have q := (hw'.cell (p := ⟨bb, o + i * 4 + 3, none⟩) (by have := hbz.size; simp; omega)).trans pi3; go_simp; try with_reducible rfl)
        try simp only [Act.put, List.setIfInBounds_toArray, List.set_cons_zero, List.set_cons_succ]
        refine rb_take 10 (some 41) (v := ?_) rfl rfl (by kernel_rfl) (by kernel_rfl) (by kernel_rfl) (by kernel_rfl) ?_ ?_
        rotate_left
        focus (intro w' hw'; go_simp; try with_reducible rfl)
        try simp only [Act.put, List.setIfInBounds_toArray, List.set_cons_zero, List.set_cons_succ]
        refine rb_done (Nat.le_refl _) (by kernel_rfl) ?_
        go_wp2
        go_ret
        exact ⟨by rw [HF.out, HG.out]; rfl, hbz⟩
end Go.Proofs.Ytakmcbgfglnanaa
