
/- octet.Reader's methods by contracts: a Reader is a block that holds the bytes that are left, and whether something was missing. Conditions: none but bounds on lengths. -/
import Derived.Test.YtilgolflpdpfnaaMath
import Derived.Test.YtilgolflpdpfnaaMem
import Derived.Test.YtilgolflpdpfnaaTypes
import Derived.Test.YtilgolflpdpfnaaProg
import Derived.KernelRfl
namespace Go.Proofs.Ytilgolflpdpfnaa.Old
open Go.RowKit

/-- Only block g, and what is new, has turned. -/
def Mod (g : Nat) (w w' : World) : Prop := w.grownBy w' (some g)
theorem Mod.refl (g : Nat) (w : World) : Mod g w w := World.grownBy.refl w _
theorem Mod.trans {g : Nat} {a b c : World} (h : Mod g a b) (k : Mod g b c) : Mod g a c :=
  ⟨k.os.trans h.os, k.tape.trans h.tape, k.output.trans h.output, Nat.le_trans h.size k.size, fun i hi hne => (k.block i (Nat.lt_of_lt_of_le hi h.size) hne).trans (h.block i hi hne)⟩
theorem Mod.set {g : Nat} {a w : World} (h : Mod g a w) (i : Nat) (u : Value) : Mod g a (w.setCell ⟨g, i, none⟩ u) :=
  h.trans ⟨rfl, rfl, rfl, by simp [World.setCell], fun k _ hne => Below.heap_setCell _ _ _ _ (fun e => hne (by rw [e]))⟩
theorem Mod.below {g : Nat} {a w : World} (h : Mod g a w) (hg : g ≤ a.heap.size) : Below g a w := ⟨h.os, h.tape, h.output, h.size, fun k hk => h.block k (by omega) (by intro e; injection e with e; omega)⟩
theorem Mod.of_below {g : Nat} {a w : World} (h : Below a.heap.size a w) : Mod g a w := ⟨h.os, h.tape, h.output, h.size, fun k hk _ => h.block k hk⟩
theorem Below.mod {B g : Nat} {w0 a w : World} (h : Below B w0 a) (hm : Mod g a w) (hB : B ≤ g) (hs : B ≤ a.heap.size) : Below B w0 w :=
  h.trans ⟨hm.os, hm.tape, hm.output, hm.size, fun k hk => hm.block k (by omega) (by intro e; injection e with e; omega)⟩
/-- Another block is as it was. -/
theorem Mod.arr {g b : Nat} {t : TypeId} {l : List Value} {a w : World} (h : Mod g a w) (hA : Arr a b t l) (hne : b ≠ g) : Arr w b t l := (h.block b hA.lt (by intro e; injection e with e; exact hne e)).trans hA

/-- Reader g: the bytes that are left, and whether it is bad. -/
def RdrAt (w : World) (g : Nat) (l : List Nat) (bad : Bool) : Prop :=
  ∃ A c, l.length ≤ c ∧ Hid (Arr w g 221 [.slice A l.length c, .bool bad]) ∧ BView w g A l
theorem RdrAt.bytes {w g l bad} (h : RdrAt w g l bad) : Bytes l := by obtain ⟨_, _, _, _, h⟩ := h; exact h.bytes
theorem RdrAt.lt {w g l bad} (h : RdrAt w g l bad) : g < w.heap.size := by obtain ⟨_, _, _, h, _⟩ := h; exact h.out.lt
theorem RdrAt.mod {w w' g b l bad} (h : RdrAt w g l bad) (hm : Mod b w w') (hb : g < b) (hs : g ≤ w.heap.size) : RdrAt w' g l bad := by
  obtain ⟨A, c, h1, h2, h3⟩ := h
  exact ⟨A, c, h1, hm.arr h2.out (by omega), h3.below ⟨hm.os, hm.tape, hm.output, hm.size, fun k hk => hm.block k (by omega) (by intro e; injection e with e; omega)⟩⟩
theorem RdrAt.below {w w' g l bad} (h : RdrAt w g l bad) (hb : Below w.heap.size w w') : RdrAt w' g l bad := by
  obtain ⟨A, c, h1, h2, h3⟩ := h
  exact ⟨A, c, h1, h2.out.below hb h2.out.lt, h3.below (hb.mono (Nat.le_of_lt h2.out.lt))⟩

/-- What Read leaves. -/
def NewRdr (w : World) (l : List Nat) (e : Ending) (w' : World) : Prop :=
  ∃ g, e = .returned (.pointer (some ⟨g, 0, none⟩)) ∧ w.heap.size ≤ g ∧ RdrAt w' g l false ∧ Below w.heap.size w w'

set_option maxRecDepth 100000 in
theorem read_c (A : Option Addr) (c : Nat) (l : List Nat) (w : World) (hv : BView w w.heap.size A l) (hn : l.length ≤ 1000000) :
    Calls Try.prog 100 #[.slice A l.length c] w (NewRdr w l) := by
  go_enter Try.func100, Try.ntmps100
  go_wp2_with (first
    | (at_make; refine wp_make1 _ rfl _ _ _ rfl 5 (.int .u8 0) 1 rfl Try.underlying22 u8info _ _ _ _ l.length rfl rfl (by omega) (by omega) (by omega) (by unfold maxLen; omega) ?_; intro g w1 hg hg1 hA hbel)
    | (refine wp_copy1 rfl (.tmp 7) (.tmp 8) _ _ rfl 5 Try.underlying22 u8size _ _ _ _ _ _ rfl rfl g 0 _ 5 hA.out (l.map u8v) (by simp) (by omega) w.heap.size (hv.below hbel).view (fun _ => rfl) (by simp) (u8v_one l) w.heap.size w hbel hg ?_; intro w2 hA2 hbel2; clear hA hbel))
  go_ret
  have h2 : Arr w2 g 5 (l.map u8v) := by have h := hA2.out; unfold splice at h; simpa using h
  refine ⟨w2.heap.size, rfl, hbel2.size, ⟨some ⟨g, 0, none⟩, l.length, Nat.le_refl _, ?_, ?_⟩, hbel2.alloc hbel2.size _⟩
  · exact hid_arr (Arr.new w2 _ [.slice (some ⟨g, 0, none⟩) l.length l.length, .bool false])
  · exact BView.of_arr hv.bytes (h2.alloc _) h2.lt

def TakeOK (w : World) (g : Nat) (l : List Nat) (bad : Bool) (n : Nat) (e : Ending) (w' : World) : Prop :=
  ∃ A c, e = .returned (.slice A n c) ∧ BView w' g A (l.take n) ∧ RdrAt w' g (l.drop n) bad ∧ Mod g w w'
def TakeBad (w : World) (g : Nat) (e : Ending) (w' : World) : Prop :=
  e = .returned (.slice none 0 0) ∧ RdrAt w' g [] true ∧ Mod g w w'

set_option maxRecDepth 100000 in
theorem take_ok (g : Nat) (l : List Nat) (bad : Bool) (n : Nat) (w : World) (h : RdrAt w g l bad) (hn : n ≤ l.length) (hl : l.length ≤ 1000000) :
    Calls Try.prog 148 #[.pointer (some ⟨g, 0, none⟩), .int .i64 (n : Int)] w (TakeOK w g l bad n) := by
  obtain ⟨A, c, hlc, hA, hv⟩ := h
  have q0 := hA.out.cell 0
  have q1 := hA.out.cell 1
  simp only [List.getElem?_cons_zero, List.getElem?_cons_succ] at q0 q1
  have f0 := hA.out.frozen 0
  have f1 := hA.out.frozen 1
  have h0 : (0 : Int) ≤ (n : Int) := by omega
  have h1 : (n : Int) ≤ (l.length : Int) := by omega
  have h2 : (n : Int) ≤ (c : Int) := by omega
  have h3 : (l.length : Int) ≤ (c : Int) := by omega
  have hcut := hv.cut (k := n) hlc
  have htk := hv.take n
  by_cases hcn : c = n
  · subst hcn
    rw [if_pos rfl] at hcut
    have HC := Lib.hid hcut
    have HT := Lib.hid htk
    clear hcut htk
    go_enter Try.func148, Try.ntmps148
    go_wp2
    all_goals
      go_ret
      exact ⟨A, c, rfl, HT.out.setCell (Nat.le_refl _) _, ⟨A, 0, by simp; omega, by rw [List.length_drop, show l.length - c = 0 by omega]; exact hid_arr (hA.out.set_ 0 _), HC.out.setCell (Nat.le_refl _) _⟩, (Mod.refl _ _).set _ _⟩
  · rw [if_neg hcn] at hcut
    have HC := Lib.hid hcut
    have HT := Lib.hid htk
    clear hcut htk
    go_enter Try.func148, Try.ntmps148
    go_wp2
    all_goals
      go_ret
      exact ⟨A, n, rfl, HT.out.setCell (Nat.le_refl _) _, ⟨A.map (·.add n), c - n, by simp; omega, by rw [List.length_drop]; exact hid_arr (hA.out.set_ 0 _), HC.out.setCell (Nat.le_refl _) _⟩, (Mod.refl _ _).set _ _⟩

set_option maxRecDepth 100000 in
theorem take_bad (g : Nat) (l : List Nat) (bad : Bool) (n : Int) (w : World) (h : RdrAt w g l bad) (hn : n < 0 ∨ (l.length : Int) < n) :
    Calls Try.prog 148 #[.pointer (some ⟨g, 0, none⟩), .int .i64 n] w (TakeBad w g) := by
  obtain ⟨A, c, hlc, hA, hv⟩ := h
  have q0 := hA.out.cell 0
  have q1 := hA.out.cell 1
  simp only [List.getElem?_cons_zero, List.getElem?_cons_succ] at q0 q1
  have f0 := hA.out.frozen 0
  have f1 := hA.out.frozen 1
  by_cases hn0 : n < 0
  · go_enter Try.func148, Try.ntmps148
    go_wp2
    go_ret
    exact ⟨rfl, ⟨none, 0, Nat.le_refl _, hid_arr ((hA.out.set_ 0 (.slice none 0 0)).set_ 1 (.bool true)), BView.nil_⟩, ((Mod.refl _ _).set _ _).set _ _⟩
  · have h1 : (l.length : Int) < n := by omega
    go_enter Try.func148, Try.ntmps148
    go_wp2
    go_ret
    exact ⟨rfl, ⟨none, 0, Nat.le_refl _, hid_arr ((hA.out.set_ 0 (.slice none 0 0)).set_ 1 (.bool true)), BView.nil_⟩, ((Mod.refl _ _).set _ _).set _ _⟩

/-- The number of bytes, most significant first. -/
def numBE (l : List Nat) : Nat := l.foldl (fun a c => a * 256 + c) 0
theorem numBE_snoc (l : List Nat) (k : Nat) (h : k < l.length) : numBE (l.take (k + 1)) = numBE (l.take k) * 256 + nth l k := by
  have e : nth l k = l[k] := by unfold nth; rw [List.getD_eq_getElem?_getD, List.getElem?_eq_getElem h]; rfl
  rw [List.take_succ_eq_append_getElem h, e]
  unfold numBE
  rw [List.foldl_append]
  rfl
theorem numBE_lt {l : List Nat} (h : Bytes l) (k : Nat) (hk : k ≤ l.length) : numBE (l.take k) < 256 ^ k := by
  induction k with
  | zero => simp [numBE]
  | succ k ih =>
    rw [numBE_snoc l k (by omega), Nat.pow_succ]
    have := ih (by omega)
    have := nth_lt h k
    omega
theorem or_u64_8 (x y : Int) (h1 : 0 ≤ x ∧ x < 72057594037927936) (h2 : 0 ≤ y ∧ y < 256) : bits .or .u64 (x * 256) y = x * 256 + y := by
  rw [u64_or _ _ (by omega) (by omega) (by omega) (by omega), nat_join 8 _ _ (by simp; omega) (by simp; omega)]
  omega
theorem numBE_bd {l : List Nat} (h : Bytes l) (k : Nat) (hk : k < l.length) (h8 : k < 8) : (0 : Int) ≤ (numBE (l.take k) : Int) ∧ (numBE (l.take k) : Int) < 72057594037927936 := by
  have h1 := numBE_lt h k (by omega)
  have h2 : 256 ^ k ≤ 256 ^ 7 := Nat.pow_le_pow_right (by omega) (by omega)
  have h3 : numBE (l.take k) < 72057594037927936 := by
    have : (256 : Nat) ^ 7 = 72057594037927936 := by decide
    omega
  omega

set_option maxRecDepth 100000 in
theorem ref_num_c (A : Option Addr) (c : Nat) (l : List Nat) (w : World) (B : Nat) (hv : BView w B A l) (hn : l.length ≤ 8) :
    Calls Try.prog 104 #[.slice A l.length c] w fun e w' => e = .returned (.int .u64 (numBE l : Nat)) ∧ w = w' := by
  go_enter Try.func104, Try.ntmps104
  go_wp2
  go_loop [3, 4] (fun v i => ∃ k : Nat, k ≤ l.length ∧ i = .int .i64 (k : Int) ∧ v = .int .u64 (numBE (l.take k) : Nat)) (fun _ i => l.length - (intOf i).toNat)
  case atStart => exact ⟨0, Nat.zero_le _, rfl, by simp [numBE]⟩
  case round =>
    obtain ⟨k, hk, rfl, rfl⟩ := hrel
    by_cases hlt : k < l.length
    · obtain ⟨b, o, rfl, hb, hcell⟩ := hv.at_ hlt
      have hc1 := hcell k hlt
      have hn1 := nth_lt hv.bytes k
      have hbd := numBE_bd hv.bytes k hlt (by omega)
      have HS := Lib.hid (numBE_snoc l k hlt)
      clear hcell
      generalize numBE (l.take k) = x at hbd HS ⊢
      go_wp2
      go_round
      case rel => exact ⟨k + 1, by omega, by go_num, by rw [HS.out]; go_num⟩
      case measure => (simp [intOf] <;> omega)
    · obtain rfl : k = l.length := by omega
      rw [List.take_length]
      go_wp2
      go_ret
      exact ⟨rfl, rfl⟩

def NumOK (w : World) (g : Nat) (l : List Nat) (bad : Bool) (n : Nat) (e : Ending) (w' : World) : Prop :=
  e = .returned (.int .u64 (numBE (l.take n) : Nat)) ∧ RdrAt w' g (l.drop n) bad ∧ Mod g w w'
def NumBad (w : World) (g : Nat) (e : Ending) (w' : World) : Prop :=
  e = .returned (.int .u64 0) ∧ RdrAt w' g [] true ∧ Mod g w w'

set_option maxRecDepth 100000 in
theorem num_ok (g : Nat) (l : List Nat) (bad : Bool) (n : Nat) (w : World) (h : RdrAt w g l bad) (hn : n ≤ l.length) (hl : l.length ≤ 1000000) (h8 : n ≤ 8) :
    Calls Try.prog 102 #[.pointer (some ⟨g, 0, none⟩), .int .i64 (n : Int)] w (NumOK w g l bad n) := by
  go_enter Try.func102, Try.ntmps102
  go_wp2_with (go_at_call 148; refine (take_ok g l bad n _ h hn hl).mono ?_; rintro e w1 ⟨A, c, rfl, hv, hr, hm⟩)
  obtain ⟨m, hm'⟩ : ∃ m, m = l.take n := ⟨_, rfl⟩
  have hml : m.length = n := by rw [hm']; simp; omega
  rw [← hm'] at hv
  have HM := Lib.hid hm'
  clear hm'
  subst hml
  go_loop [5, 14] (fun v i => ∃ k : Nat, k ≤ m.length ∧ i = .int .i64 (k : Int) ∧ v = .int .u64 (numBE (m.take k) : Nat)) (fun _ i => m.length - (intOf i).toNat)
  case atStart => exact ⟨0, Nat.zero_le _, rfl, by simp [numBE]⟩
  case round =>
    obtain ⟨k, hk, rfl, rfl⟩ := hrel
    by_cases hlt : k < m.length
    · obtain ⟨b, o, rfl, hb, hcell⟩ := hv.at_ hlt
      have hc1 := hcell k hlt
      have hn1 := nth_lt hv.bytes k
      have hbd := numBE_bd hv.bytes k hlt (by omega)
      have hor := or_u64_8 (numBE (m.take k)) (nth m k) hbd (by omega)
      have HS := Lib.hid (numBE_snoc m k hlt)
      clear hcell
      generalize numBE (m.take k) = x at hbd HS hor ⊢
      go_wp2
      go_round
      case rel => exact ⟨k + 1, by omega, by go_num, by rw [HS.out]; go_num⟩
      case measure => (simp [intOf] <;> omega)
    · obtain rfl : k = m.length := by omega
      rw [List.take_length]
      go_wp2
      go_ret
      exact ⟨by rw [← HM.out]; rfl, hr, hm⟩

set_option maxRecDepth 100000 in
theorem num_bad (g : Nat) (l : List Nat) (bad : Bool) (n : Int) (w : World) (h : RdrAt w g l bad) (hn : n < 0 ∨ (l.length : Int) < n ∨ 8 < n) :
    Calls Try.prog 102 #[.pointer (some ⟨g, 0, none⟩), .int .i64 n] w (NumBad w g) := by
  by_cases h8 : 8 < n
  · go_enter Try.func102, Try.ntmps102
    go_wp2_with (go_at_call 148; refine (take_bad g l bad _ _ h (by omega)).mono ?_; rintro e w1 ⟨rfl, hr, hm⟩)
    refine wp_loop_rounds 1 ?_
    rw [rounds_succ]
    go_wp2
    go_ret
    exact ⟨rfl, hr, hm⟩
  · go_enter Try.func102, Try.ntmps102
    go_wp2_with (go_at_call 148; refine (take_bad g l bad _ _ h (by omega)).mono ?_; rintro e w1 ⟨rfl, hr, hm⟩)
    refine wp_loop_rounds 1 ?_
    rw [rounds_succ]
    go_wp2
    go_ret
    exact ⟨rfl, hr, hm⟩

theorem left_c (g : Nat) (l : List Nat) (bad : Bool) (w : World) (h : RdrAt w g l bad) :
    Calls Try.prog 166 #[.pointer (some ⟨g, 0, none⟩)] w fun e w' => e = .returned (.int .i64 (l.length : Int)) ∧ w = w' := by
  obtain ⟨A, c, hlc, hA, hv⟩ := h
  have q0 := hA.out.cell 0
  simp only [List.getElem?_cons_zero] at q0
  go_enter Try.func166, Try.ntmps166
  go_wp2
  go_ret
  exact ⟨rfl, rfl⟩

end Go.Proofs.Ytilgolflpdpfnaa.Old
