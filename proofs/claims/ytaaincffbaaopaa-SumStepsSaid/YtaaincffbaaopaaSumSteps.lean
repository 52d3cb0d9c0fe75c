/- Proved: SumSteps returns true for every sum, words and list of changes, and changes no memory that was there. Conditions: none. -/
import Derived.Test.YtaaincffbaaopaaSum
import Derived.Test.YtaaincffbaaopaaRegion
import Derived.Test.YtaaincffbaaopaaKit
namespace Go.Proofs.Ytaaincffbaaopaa.SumSteps
open Go.RowKit

def chgV (l : List (Int × Int)) : List Value := l.flatMap fun p => [.int .u16 p.1, .int .u16 p.2]
def Chg (l : List (Int × Int)) : Prop := ∀ p ∈ l, 0 ≤ p.1 ∧ p.1 < 65536 ∧ 0 ≤ p.2 ∧ p.2 < 65536
def updTo (s : Int) (l : List (Int × Int)) : Int := l.foldl (fun s p => updN s p.1 p.2) s

theorem chgV_get (l : List (Int × Int)) (k : Nat) (p : Int × Int) (h : l[k]? = some p) : (chgV l)[k * 2]? = some (.int .u16 p.1) ∧ (chgV l)[k * 2 + 1]? = some (.int .u16 p.2) := by
  induction l generalizing k with
  | nil => simp at h
  | cons q l ih =>
    cases k with
    | zero => simp at h; subst h; simp [chgV]
    | succ k =>
      have := ih k (by simpa using h)
      have e : chgV (q :: l) = .int .u16 q.1 :: .int .u16 q.2 :: chgV l := rfl
      rw [e, show (k + 1) * 2 = k * 2 + 1 + 1 from by omega]
      simpa using this
theorem updTo_snoc (s : Int) (l : List (Int × Int)) (k : Nat) (p : Int × Int) (h : l[k]? = some p) : updTo s (l.take (k + 1)) = updN (updTo s (l.take k)) p.1 p.2 := by
  have hk : k < l.length := by
    rcases Nat.lt_or_ge k l.length with h1 | h1
    · exact h1
    · rw [List.getElem?_eq_none h1] at h; cases h
  rw [List.getElem?_eq_getElem hk] at h
  injection h with h
  rw [List.take_succ_eq_append_getElem hk, h]
  simp [updTo]
theorem updTo_bd (s : Int) (l : List (Int × Int)) (hs : 0 ≤ s ∧ s < 65536) : 0 ≤ updTo s l ∧ updTo s l < 65536 := by
  induction l generalizing s with
  | nil => exact hs
  | cons p l ih => exact ih _ (updN_bd _ _ _)

set_option maxRecDepth 100000 in
theorem updateAll_c (s : Int) (A : Option Addr) (c : Nat) (l : List (Int × Int)) (w : World) (hv : View w w.heap.size A (chgV l)) (hl : Chg l) (hs : 0 ≤ s ∧ s < 65536) (hn : l.length ≤ 100) :
    Calls Try.prog 31 #[.int .u16 s, .slice A l.length c] w fun e w' => e = .returned (.int .u16 (updTo s l)) ∧ Below w.heap.size w w' := by
  go_enter Try.func31, Try.ntmps31
  go_wp2
  go_loopw [0, 9] (fun v i wr => ∃ k : Nat, k ≤ l.length ∧ i = .int .i64 (k : Int) ∧ v = .int .u16 (updTo s (l.take k)) ∧ Below w.heap.size w wr) (fun _ i _ => l.length - (intOf i).toNat)
  case atStart => exact ⟨0, Nat.zero_le _, rfl, by simp [updTo], Below.refl _ _⟩
  case round =>
    rename_i wr
    obtain ⟨k, hk, rfl, rfl, hbel⟩ := hrel
    by_cases hlt : k < l.length
    · obtain ⟨⟨p1, p2⟩, hp⟩ : ∃ p, l[k]? = some p := ⟨_, List.getElem?_eq_getElem hlt⟩
      obtain ⟨hg1, hg2⟩ := chgV_get l k _ hp
      obtain ⟨b, o, rfl, hb, hcell⟩ := (hv.below hbel) (by intro e; rw [e] at hg1; simp at hg1)
      have hc1 := hcell _ _ hg1
      have hc2 := hcell _ _ hg2
      rw [← Nat.add_assoc] at hc2
      have hpb := hl _ (List.mem_of_getElem? hp)
      have HS := Lib.hid (updTo_snoc s l k _ hp)
      have hub := updTo_bd s (l.take k) hs
      clear hcell hg1 hg2 hp
      go_wp2_with (go_at_call 29; refine (update_c _ _ _ _ (by omega) (by omega) (by omega)).mono ?_; rintro e w' ⟨rfl, rfl⟩)
      go_roundw
      case rel => exact ⟨k + 1, by omega, by go_num, by rw [HS.out], hbel.alloc hbel.size _⟩
      case measure => (simp [intOf] <;> omega)
    · go_wp2
      go_ret
      obtain rfl : k = l.length := by omega
      rw [List.take_length]
      exact ⟨rfl, hbel⟩

set_option maxRecDepth 100000 in
set_option maxHeartbeats 2000000 in
theorem walk_ (s a b : Int) (A : Option Addr) (n c : Nat) (l : List (Int × Int)) (w : World) (hs : 0 ≤ s ∧ s < 65536) (ha : 0 ≤ a ∧ a < 4294967296) (hb : 0 ≤ b ∧ b < 4294967296) (hn : l.length = n) (hv : View w w.heap.size A (chgV l)) (hl : Chg l) :
    Calls Try.prog 5 #[.int .u16 s, .int .u32 a, .int .u32 b, .slice A n c] w fun e w' => e = .returned (.bool true) ∧ Below w.heap.size w w' := by
  subst hn
  by_cases hlen : (100 : Int) < l.length
  · go_enter Try.func5, Try.ntmps5
    go_wp2_with (go_at_call 27; refine (sum_awake_c _).mono ?_; rintro e w' ⟨rfl, hbel⟩)
    go_ret
    exact ⟨rfl, hbel⟩
  · have e1 : IntKind.u16.wrap a = a % 65536 := IntKind.wrap_u16 a
    have e2 : IntKind.u16.wrap b = b % 65536 := IntKind.wrap_u16 b
    have hbd := updN_bd s (a / 65536) (b / 65536)
    go_enter Try.func5, Try.ntmps5
    go_wp2_with (go_at_call 28; refine (ref_update_c _ _ _ _ (by omega) (by omega) (by omega)).mono ?_; rintro e w' ⟨rfl, rfl⟩)
    go_loopw [10, 11] (fun v i wr => ∃ k : Nat, k ≤ l.length ∧ i = .int .i64 (k : Int) ∧ v = .int .u16 (updTo s (l.take k)) ∧ Below w.heap.size w wr) (fun _ i _ => l.length - (intOf i).toNat)
    case atStart => exact ⟨0, Nat.zero_le _, rfl, by simp [updTo], Below.refl _ _⟩
    case round =>
      rename_i wr
      obtain ⟨k, hk, rfl, rfl, hbel⟩ := hrel
      by_cases hlt : k < l.length
      · obtain ⟨⟨p1, p2⟩, hp⟩ : ∃ p, l[k]? = some p := ⟨_, List.getElem?_eq_getElem hlt⟩
        obtain ⟨hg1, hg2⟩ := chgV_get l k _ hp
        obtain ⟨b, o, rfl, hb, hcell⟩ := (hv.below hbel) (by intro e; rw [e] at hg1; simp at hg1)
        have hc1 := hcell _ _ hg1
        have hc2 := hcell _ _ hg2
        rw [← Nat.add_assoc] at hc2
        have hpb := hl _ (List.mem_of_getElem? hp)
        have HS := Lib.hid (updTo_snoc s l k _ hp)
        have hub := updTo_bd s (l.take k) hs
        have hk0 : (0 : Int) ≤ (k : Int) := by omega
        have hk1 : (k : Int) < (l.length : Int) := by omega
        clear hcell hg1 hg2 hp
        go_wp2_with fail
        go_quiet ((go_at_call 28; exact quiet_c (ref_update_c _ _ _ _ (by omega) (by omega) (by omega))))
        go_wp2
        go_roundw
        case rel => exact ⟨k + 1, by omega, by go_num, by rw [HS.out], below_drawn hbel _⟩
        case measure => (simp [intOf] <;> omega)
      · have hub := updTo_bd s l hs
        have hk3 : k = l.length := by omega
        subst hk3
        rw [List.take_length]
        have hvr := hv.below hbel
        go_wp2_with (first
          | (go_at_call 28; refine (ref_update_c _ _ _ _ (by omega) (by omega) (by omega)).mono ?_; rintro e w' ⟨rfl, rfl⟩)
          | (go_at_call 29; refine (update_c _ _ _ _ (by omega) (by omega) (by omega)).mono ?_; rintro e w' ⟨rfl, rfl⟩)
          | (go_at_call 30; refine (updateLong_c _ _ _ _ (by omega) (by omega) (by omega)).mono ?_; rintro e w' ⟨rfl, rfl⟩)
          | (go_at_call 31; refine (updateAll_c _ _ _ l _ (hvr.more hbel.size) hl (by omega) (by omega)).mono ?_; rintro e w2 ⟨rfl, hbel2⟩)
          | (go_at_call 27; refine (sum_awake_c _).mono ?_; rintro e w3 ⟨rfl, hbel3⟩))
        go_ret
        exact ⟨rfl, hbel.trans ((hbel2.trans (hbel3.mono hbel2.size)).mono hbel.size)⟩

open Go.ChangeShapes Go.WideShapes Go.ChangeAt in
set_option maxRecDepth 100000 in
theorem walk {H : Type} {enc : TypeId × Value → H} {r : Reach} {b0 : Nat} {d : DataW H} {ps : List MemPlace} (s a b : Int) (v : Value) (w : World) (hs : 0 ≤ s ∧ s < 65536) (ha : 0 ≤ a ∧ a < 4294967296) (hb : 0 ≤ b ∧ b < 4294967296)
    (hval : Value.okWide Try.prog w r b0 44 v) (hd : DataW.Trod enc Try.prog w 0 (fun _ => true) true 44 v d ps) (hlt : ∀ x ∈ ps, x.block < w.heap.size) :
    Calls Try.prog 5 #[.int .u16 s, .int .u32 a, .int .u32 b, v] w fun e w' => e = .returned (.bool true) ∧ Below w.heap.size w w' := by
  have hC : Try.prog.cellsOf 47 = 2 := by kernel_rfl
  obtain ⟨A, n, c, es, rfl, hn, hA, _, _, hv, hes⟩ := open_elems Try.underlying44 (by rw [hC]; omega) hval hd hlt
  obtain ⟨l, rfl, hl⟩ := list_decode (fun p : Int × Int => [Value.int .u16 p.1, .int .u16 p.2]) (fun p => 0 ≤ p.1 ∧ p.1 < 65536 ∧ 0 ≤ p.2 ∧ p.2 < 65536) es (by
    intro cs hcs
    obtain ⟨hl, m, x, ht, _⟩ := hes cs hcs
    rw [hC] at hl
    have hf := struct_fields Try.underlying47 (by kernel_rfl) ht hl
    obtain ⟨v0, y0, k0, h0, t0, _⟩ := hf 0 _ rfl
    obtain ⟨v1, y1, k1, h1, t1, _⟩ := hf 1 _ rfl
    obtain ⟨z0, e0, _, z0w⟩ := DataW.trod_int Try.underlying42 t0
    obtain ⟨z1, e1, _, z1w⟩ := DataW.trod_int Try.underlying42 t1
    injection e0 with e0; injection e1 with e1
    subst e0; subst e1
    refine ⟨(z0, z1), ?_, (wf_u16 z0w).1, (wf_u16 z0w).2, (wf_u16 z1w).1, (wf_u16 z1w).2⟩
    match cs, hl with
    | [c0, c1], _ => simp at h0 h1; rw [h0, h1])
  exact walk_ s a b A n c l w hs ha hb (by simpa using hn) (by rw [chgV, List.flatMap_def]; exact hv) hl
end Go.Proofs.Ytaaincffbaaopaa.SumSteps
