
/- varint.Take, All and the reference's Take by contracts. Conditions: bounds on lengths. -/
import Derived.Test.YtakmcbgfglnanaaReader
import Derived.Test.YtakmcbgfglnanaaVarint
import Derived.Test.YtakmcbgfglnanaaAppend
namespace Go.Proofs.Ytakmcbgfglnanaa
open Go.RowKit

theorem vlength_l (q s : Int) (w : World) (h : (q = 0 ∧ s = 1) ∨ (q = 1 ∧ s = 2) ∨ (q = 2 ∧ s = 4) ∨ (q = 3 ∧ s = 8)) : Calls Try.prog 95 #[.int .u64 q] w fun e w' => e = .returned (.int .i64 s) ∧ w = w' := by
  rcases h with ⟨rfl, rfl⟩ | ⟨rfl, rfl⟩ | ⟨rfl, rfl⟩ | ⟨rfl, rfl⟩
  all_goals
    go_enter Try.func95, Try.ntmps95
    go_wp2
    go_ret
    exact ⟨rfl, rfl⟩
def vsz (l : List Nat) : Nat := 2 ^ (nth l 0 / 64)
def vval (l : List Nat) : Nat := nth l 0 % 64 * 256 ^ (vsz l - 1) + numBE ((l.drop 1).take (vsz l - 1))
def TakeV (w : World) (g : Nat) (l : List Nat) (e : Ending) (w' : World) : Prop :=
  e = .returned (.tuple #[.int .u64 (vval l : Nat), .bool true]) ∧ RdrAt w' g (l.drop (vsz l)) false ∧ Mod g w w'
def TakeNo (w : World) (g : Nat) (e : Ending) (w' : World) : Prop :=
  ∃ x : Int, e = .returned (.tuple #[.int .u64 x, .bool false]) ∧ RdrAt w' g [] true ∧ Mod g w w'
theorem numBE_one {l : List Nat} (h : 0 < l.length) : numBE (l.take 1) = nth l 0 := by
  have := numBE_snoc l 0 h
  simpa [numBE] using this
theorem and63 (f : Nat) (h : f < 256) : bits .and .u64 (f : Int) 63 = ((f % 64 : Nat) : Int) := by
  rw [u64_and (f : Int) 63 (by omega) (by omega) (by omega) (by omega)]
  have : f &&& (2 ^ 6 - 1) = f % 2 ^ 6 := Nat.and_two_pow_sub_one_eq_mod f 6
  simp only [Int.toNat_natCast]
  rw [show ((63 : Int).toNat) = 2 ^ 6 - 1 from rfl, this]
theorem or_hi (x y k : Nat) (hk : k < 8) (hx : x < 64) (hy : y < 256 ^ k) : bits .or .u64 ((x * 256 ^ k : Nat) : Int) (y : Int) = ((x * 256 ^ k + y : Nat) : Int) := by
  have h7 : (256 : Nat) ^ k ≤ 256 ^ 7 := Nat.pow_le_pow_right (by omega) (by omega)
  have h8 : (256 : Nat) ^ 7 = 72057594037927936 := by decide
  have hm : x * 256 ^ k ≤ 63 * 72057594037927936 := Nat.mul_le_mul (by omega) (by omega)
  have hj := Nat.two_pow_add_eq_or_of_lt (i := 8 * k) (b := y) (by rw [Nat.pow_mul]; exact hy) x
  rw [Nat.pow_mul, Nat.mul_comm (_ ^ _) x] at hj
  generalize 256 ^ k = P at *
  have hj2 : x * P ||| y = x * P + y := hj.symm
  generalize x * P = m at hm hj2 ⊢
  rw [u64_or (m : Int) (y : Int) (by omega) (by omega) (by omega) (by omega)]
  simp only [Int.toNat_natCast]
  rw [hj2]

set_option maxRecDepth 100000 in
theorem vtake_none_c (g : Nat) (w : World) (h : RdrAt w g [] false) :
    Calls Try.prog 89 #[.pointer (some ⟨g, 0, none⟩)] w (TakeNo w g) := by
  go_enter Try.func89, Try.ntmps89
  go_wp2_with fail
  refine (num_bad g [] false 1 w h (by simp)).mono ?_
  rintro e w1 ⟨rfl, hr1, hm1⟩
  go_wp2_with fail
  refine (vlength_l 0 1 _ (by omega)).mono ?_
  rintro e w2 ⟨rfl, rfl⟩
  go_wp2_with fail
  refine (num_ok g [] true 0 w1 hr1 (by simp) (by simp) (by omega)).mono ?_
  rintro e w3 ⟨rfl, hr3, hm3⟩
  go_wp2_with fail
  refine (bad_c g _ true w3 hr3).mono ?_
  rintro e w4 ⟨rfl, rfl⟩
  go_wp2
  go_ret2
  exact ⟨_, rfl, hr3, hm1.trans hm3⟩

set_option maxRecDepth 100000 in
theorem vtake_c (g : Nat) (l : List Nat) (w : World) (h : RdrAt w g l false) (hl : l.length ≤ 1000000) (h0 : 0 < l.length) :
    Calls Try.prog 89 #[.pointer (some ⟨g, 0, none⟩)] w fun e w' => (vsz l ≤ l.length ∧ TakeV w g l e w') ∨ (l.length < vsz l ∧ TakeNo w g e w') := by
  obtain ⟨f, HF⟩ : ∃ f, Hid (nth l 0 = f) := ⟨_, Lib.hid rfl⟩
  have hf : f < 256 := by rw [← HF.out]; exact nth_lt h.bytes 0
  have hfi : (0 : Int) ≤ (f : Int) ∧ (f : Int) < 256 := by omega
  have HN := Lib.hid (show numBE (l.take 1) = f by rw [numBE_one h0, HF.out])
  have HW := Lib.hid (fun k => or_hi (f % 64) (numBE ((l.drop 1).take k)) k)
  have hq : f / 64 = 0 ∨ f / 64 = 1 ∨ f / 64 = 2 ∨ f / 64 = 3 := by omega
  rcases hq with hq | hq | hq | hq
  · have hq1 : (f : Int) / 64 = 0 := by omega
    have HV := Lib.hid (show vsz l = 1 ∧ vval l = f % 64 * 256 ^ 0 + numBE ((l.drop 1).take 0) by
      have e : f / 64 = 0 := by omega
      have e2 : vsz l = 1 := by unfold vsz; rw [HF.out, e]
      exact ⟨e2, by unfold vval; rw [e2, HF.out]⟩)
    obtain ⟨x, HX⟩ : ∃ x, Hid (f % 64 = x) := ⟨_, Lib.hid rfl⟩
    have hx : (0 : Int) ≤ (x : Int) ∧ (x : Int) < 64 := by rw [← HX.out]; omega
    have HA := Lib.hid (show bits .and .u64 (f : Int) 63 = (x : Int) by rw [and63 f hf, HX.out])
    have HQ := Lib.hid hq1
    clear hq1 hf
    go_enter Try.func89, Try.ntmps89
    go_wp2_with fail
    refine (num_ok g l false 1 w h (by omega) hl (by omega)).mono ?_
    rintro e w1 ⟨rfl, hr1, hm1⟩
    rw [HN.out]
    go_wp2_with fail
    rw [HQ.out]
    refine (vlength_l 0 1 _ (by omega)).mono ?_
    rintro e w2 ⟨rfl, rfl⟩
    go_wp2_with fail
    rw [HA.out]
    by_cases hfit : 1 ≤ l.length
    · have hlt : numBE ((l.drop 1).take 0) < 256 ^ 0 := numBE_lt hr1.bytes 0 (by simp <;> omega)
      have hw := HW.out 0 (by omega) (by omega) hlt
      obtain ⟨y, HY⟩ : ∃ y, Hid (numBE ((l.drop 1).take 0) = y) := ⟨_, Lib.hid rfl⟩
      have HO := Lib.hid (show bits .or .u64 (x : Int) (y : Int) = ((vval l : Nat) : Int) by
        rw [HV.out.2, ← hw, HX.out, HY.out]
        first | rfl | (congr 1; omega))
      clear hw hlt
      refine (num_ok g (l.drop 1) false 0 w1 hr1 (by simp <;> omega) (by simp <;> omega) (by omega)).mono ?_
      rintro e w3 ⟨rfl, hr3, hm3⟩
      rw [HY.out]
      go_wp2_with fail
      rw [HO.out]
      refine (bad_c g _ false w3 hr3).mono ?_
      rintro e w4 ⟨rfl, rfl⟩
      go_wp2
      go_ret2
      refine .inl ⟨by rw [HV.out.1]; exact hfit, rfl, ?_, hm1.trans hm3⟩
      rw [HV.out.1]
      rw [List.drop_drop] at hr3
      exact hr3
    · refine (num_bad g (l.drop 1) false 0 w1 hr1 (by simp <;> omega)).mono ?_
      rintro e w3 ⟨rfl, hr3, hm3⟩
      go_wp2_with fail
      refine (bad_c g _ true w3 hr3).mono ?_
      rintro e w4 ⟨rfl, rfl⟩
      go_wp2
      go_ret2
      exact .inr ⟨by rw [HV.out.1]; omega, _, rfl, hr3, hm1.trans hm3⟩
  · have hq1 : (f : Int) / 64 = 1 := by omega
    have HV := Lib.hid (show vsz l = 2 ∧ vval l = f % 64 * 256 ^ 1 + numBE ((l.drop 1).take 1) by
      have e : f / 64 = 1 := by omega
      have e2 : vsz l = 2 := by unfold vsz; rw [HF.out, e]
      exact ⟨e2, by unfold vval; rw [e2, HF.out]⟩)
    obtain ⟨x, HX⟩ : ∃ x, Hid (f % 64 = x) := ⟨_, Lib.hid rfl⟩
    have hx : (0 : Int) ≤ (x : Int) ∧ (x : Int) < 64 := by rw [← HX.out]; omega
    have HA := Lib.hid (show bits .and .u64 (f : Int) 63 = (x : Int) by rw [and63 f hf, HX.out])
    have HQ := Lib.hid hq1
    clear hq1 hf
    go_enter Try.func89, Try.ntmps89
    go_wp2_with fail
    refine (num_ok g l false 1 w h (by omega) hl (by omega)).mono ?_
    rintro e w1 ⟨rfl, hr1, hm1⟩
    rw [HN.out]
    go_wp2_with fail
    rw [HQ.out]
    refine (vlength_l 1 2 _ (by omega)).mono ?_
    rintro e w2 ⟨rfl, rfl⟩
    go_wp2_with fail
    rw [HA.out]
    by_cases hfit : 2 ≤ l.length
    · have hlt : numBE ((l.drop 1).take 1) < 256 ^ 1 := numBE_lt hr1.bytes 1 (by simp <;> omega)
      have hw := HW.out 1 (by omega) (by omega) hlt
      obtain ⟨y, HY⟩ : ∃ y, Hid (numBE ((l.drop 1).take 1) = y) := ⟨_, Lib.hid rfl⟩
      have HO := Lib.hid (show bits .or .u64 ((x : Int) * 256) (y : Int) = ((vval l : Nat) : Int) by
        rw [HV.out.2, ← hw, HX.out, HY.out]
        first | rfl | (congr 1; omega))
      clear hw hlt
      refine (num_ok g (l.drop 1) false 1 w1 hr1 (by simp <;> omega) (by simp <;> omega) (by omega)).mono ?_
      rintro e w3 ⟨rfl, hr3, hm3⟩
      rw [HY.out]
      go_wp2_with fail
      rw [HO.out]
      refine (bad_c g _ false w3 hr3).mono ?_
      rintro e w4 ⟨rfl, rfl⟩
      go_wp2
      go_ret2
      refine .inl ⟨by rw [HV.out.1]; exact hfit, rfl, ?_, hm1.trans hm3⟩
      rw [HV.out.1]
      rw [List.drop_drop] at hr3
      exact hr3
    · refine (num_bad g (l.drop 1) false 1 w1 hr1 (by simp <;> omega)).mono ?_
      rintro e w3 ⟨rfl, hr3, hm3⟩
      go_wp2_with fail
      refine (bad_c g _ true w3 hr3).mono ?_
      rintro e w4 ⟨rfl, rfl⟩
      go_wp2
      go_ret2
      exact .inr ⟨by rw [HV.out.1]; omega, _, rfl, hr3, hm1.trans hm3⟩
  · have hq1 : (f : Int) / 64 = 2 := by omega
    have HV := Lib.hid (show vsz l = 4 ∧ vval l = f % 64 * 256 ^ 3 + numBE ((l.drop 1).take 3) by
      have e : f / 64 = 2 := by omega
      have e2 : vsz l = 4 := by unfold vsz; rw [HF.out, e]
      exact ⟨e2, by unfold vval; rw [e2, HF.out]⟩)
    obtain ⟨x, HX⟩ : ∃ x, Hid (f % 64 = x) := ⟨_, Lib.hid rfl⟩
    have hx : (0 : Int) ≤ (x : Int) ∧ (x : Int) < 64 := by rw [← HX.out]; omega
    have HA := Lib.hid (show bits .and .u64 (f : Int) 63 = (x : Int) by rw [and63 f hf, HX.out])
    have HQ := Lib.hid hq1
    clear hq1 hf
    go_enter Try.func89, Try.ntmps89
    go_wp2_with fail
    refine (num_ok g l false 1 w h (by omega) hl (by omega)).mono ?_
    rintro e w1 ⟨rfl, hr1, hm1⟩
    rw [HN.out]
    go_wp2_with fail
    rw [HQ.out]
    refine (vlength_l 2 4 _ (by omega)).mono ?_
    rintro e w2 ⟨rfl, rfl⟩
    go_wp2_with fail
    rw [HA.out]
    by_cases hfit : 4 ≤ l.length
    · have hlt : numBE ((l.drop 1).take 3) < 256 ^ 3 := numBE_lt hr1.bytes 3 (by simp <;> omega)
      have hw := HW.out 3 (by omega) (by omega) hlt
      obtain ⟨y, HY⟩ : ∃ y, Hid (numBE ((l.drop 1).take 3) = y) := ⟨_, Lib.hid rfl⟩
      have HO := Lib.hid (show bits .or .u64 ((x : Int) * 16777216) (y : Int) = ((vval l : Nat) : Int) by
        rw [HV.out.2, ← hw, HX.out, HY.out]
        first | rfl | (congr 1; omega))
      clear hw hlt
      refine (num_ok g (l.drop 1) false 3 w1 hr1 (by simp <;> omega) (by simp <;> omega) (by omega)).mono ?_
      rintro e w3 ⟨rfl, hr3, hm3⟩
      rw [HY.out]
      go_wp2_with fail
      rw [HO.out]
      refine (bad_c g _ false w3 hr3).mono ?_
      rintro e w4 ⟨rfl, rfl⟩
      go_wp2
      go_ret2
      refine .inl ⟨by rw [HV.out.1]; exact hfit, rfl, ?_, hm1.trans hm3⟩
      rw [HV.out.1]
      rw [List.drop_drop] at hr3
      exact hr3
    · refine (num_bad g (l.drop 1) false 3 w1 hr1 (by simp <;> omega)).mono ?_
      rintro e w3 ⟨rfl, hr3, hm3⟩
      go_wp2_with fail
      refine (bad_c g _ true w3 hr3).mono ?_
      rintro e w4 ⟨rfl, rfl⟩
      go_wp2
      go_ret2
      exact .inr ⟨by rw [HV.out.1]; omega, _, rfl, hr3, hm1.trans hm3⟩
  · have hq1 : (f : Int) / 64 = 3 := by omega
    have HV := Lib.hid (show vsz l = 8 ∧ vval l = f % 64 * 256 ^ 7 + numBE ((l.drop 1).take 7) by
      have e : f / 64 = 3 := by omega
      have e2 : vsz l = 8 := by unfold vsz; rw [HF.out, e]
      exact ⟨e2, by unfold vval; rw [e2, HF.out]⟩)
    obtain ⟨x, HX⟩ : ∃ x, Hid (f % 64 = x) := ⟨_, Lib.hid rfl⟩
    have hx : (0 : Int) ≤ (x : Int) ∧ (x : Int) < 64 := by rw [← HX.out]; omega
    have HA := Lib.hid (show bits .and .u64 (f : Int) 63 = (x : Int) by rw [and63 f hf, HX.out])
    have HQ := Lib.hid hq1
    clear hq1 hf
    go_enter Try.func89, Try.ntmps89
    go_wp2_with fail
    refine (num_ok g l false 1 w h (by omega) hl (by omega)).mono ?_
    rintro e w1 ⟨rfl, hr1, hm1⟩
    rw [HN.out]
    go_wp2_with fail
    rw [HQ.out]
    refine (vlength_l 3 8 _ (by omega)).mono ?_
    rintro e w2 ⟨rfl, rfl⟩
    go_wp2_with fail
    rw [HA.out]
    by_cases hfit : 8 ≤ l.length
    · have hlt : numBE ((l.drop 1).take 7) < 256 ^ 7 := numBE_lt hr1.bytes 7 (by simp <;> omega)
      have hw := HW.out 7 (by omega) (by omega) hlt
      obtain ⟨y, HY⟩ : ∃ y, Hid (numBE ((l.drop 1).take 7) = y) := ⟨_, Lib.hid rfl⟩
      have HO := Lib.hid (show bits .or .u64 ((x : Int) * 72057594037927936) (y : Int) = ((vval l : Nat) : Int) by
        rw [HV.out.2, ← hw, HX.out, HY.out]
        first | rfl | (congr 1; omega))
      clear hw hlt
      refine (num_ok g (l.drop 1) false 7 w1 hr1 (by simp <;> omega) (by simp <;> omega) (by omega)).mono ?_
      rintro e w3 ⟨rfl, hr3, hm3⟩
      rw [HY.out]
      go_wp2_with fail
      rw [HO.out]
      refine (bad_c g _ false w3 hr3).mono ?_
      rintro e w4 ⟨rfl, rfl⟩
      go_wp2
      go_ret2
      refine .inl ⟨by rw [HV.out.1]; exact hfit, rfl, ?_, hm1.trans hm3⟩
      rw [HV.out.1]
      rw [List.drop_drop] at hr3
      exact hr3
    · refine (num_bad g (l.drop 1) false 7 w1 hr1 (by simp <;> omega)).mono ?_
      rintro e w3 ⟨rfl, hr3, hm3⟩
      go_wp2_with fail
      refine (bad_c g _ true w3 hr3).mono ?_
      rintro e w4 ⟨rfl, rfl⟩
      go_wp2
      go_ret2
      exact .inr ⟨by rw [HV.out.1]; omega, _, rfl, hr3, hm1.trans hm3⟩

def VOk (l : List Nat) : Prop := 0 < l.length ∧ vsz l ≤ l.length
theorem vtake_any (g : Nat) (l : List Nat) (w : World) (h : RdrAt w g l false) (hl : l.length ≤ 1000000) :
    Calls Try.prog 89 #[.pointer (some ⟨g, 0, none⟩)] w fun e w' => (VOk l ∧ TakeV w g l e w') ∨ (¬ VOk l ∧ TakeNo w g e w') := by
  by_cases h0 : 0 < l.length
  · refine (vtake_c g l w h hl h0).mono ?_
    rintro e w' (⟨h1, h2⟩ | ⟨h1, h2⟩)
    · exact .inl ⟨⟨h0, h1⟩, h2⟩
    · exact .inr ⟨fun hv => by have := hv.2; omega, h2⟩
  · have e : l = [] := List.eq_nil_of_length_eq_zero (by omega)
    subst e
    refine (vtake_none_c g w h).mono ?_
    intro e w' h2
    exact .inr ⟨fun hv => by have := hv.1; simp at this, h2⟩

def RestOK (w : World) (g : Nat) (l : List Nat) (e : Ending) (w' : World) : Prop :=
  ∃ A c, e = .returned (.slice A l.length c) ∧ l.length ≤ c ∧ BView w' g A l ∧ Mod g w w'
set_option maxRecDepth 100000 in
theorem rest_c (g : Nat) (l : List Nat) (bad : Bool) (w : World) (h : RdrAt w g l bad) (hl : l.length ≤ 1000000) :
    Calls Try.prog 90 #[.pointer (some ⟨g, 0, none⟩)] w fun e w' => ∃ A c, e = .returned (.slice A l.length c) ∧ BView w' g A l ∧ Mod g w w' := by
  go_enter Try.func90, Try.ntmps90
  go_wp2_with fail
  refine (left_c g l bad w h).mono ?_
  rintro e w1 ⟨rfl, rfl⟩
  go_wp2_with fail
  refine (take_ok g l bad l.length w h (Nat.le_refl _) hl).mono ?_
  rintro e w1 ⟨A, c, rfl, hv, hr, hm⟩
  rw [List.take_length] at hv
  go_wp2
  go_ret
  exact ⟨A, c, rfl, hv, hm⟩

def VTakeOK (w : World) (l : List Nat) (e : Ending) (w' : World) : Prop :=
  ∃ A c, e = .returned (.tuple #[.int .u64 (vval l : Nat), .slice A (l.length - vsz l) c, .int .i64 0]) ∧ BView w' w'.heap.size A (l.drop (vsz l)) ∧ Below w.heap.size w w'
def VTakeNo (w : World) (e : Ending) (w' : World) : Prop :=
  e = .returned (.tuple #[.int .u64 0, .slice none 0 0, .int .i64 20]) ∧ Below w.heap.size w w'
set_option maxRecDepth 100000 in
theorem vTake_c (A : Option Addr) (c : Nat) (l : List Nat) (w : World) (hv : BView w w.heap.size A l) (hl : l.length ≤ 1000000) :
    Calls Try.prog 49 #[.slice A l.length c] w fun e w' => (VOk l ∧ VTakeOK w l e w') ∨ (¬ VOk l ∧ VTakeNo w e w') := by
  go_enter Try.func49, Try.ntmps49
  go_wp2_with fail
  refine (read_c A c l w hv hl).mono ?_
  rintro e w1 ⟨g, rfl, hg, hr1, hb1⟩
  go_wp2_with fail
  refine (vtake_any g l w1 hr1 hl).mono ?_
  rintro e w2 (⟨hok, rfl, hr2, hm2⟩ | ⟨hno, x, rfl, hr2, hm2⟩)
  · have hb2 := Below.mod hb1 hm2 hg hb1.size
    have hg2 := hr2.lt
    have hlen : (l.drop (vsz l)).length = l.length - vsz l := List.length_drop
    have HL := Lib.hid hlen
    clear hlen
    go_wp2_with fail
    refine (rest_c g (l.drop (vsz l)) false w2 hr2 (by rw [HL.out]; omega)).mono ?_
    rintro e w3 ⟨A3, c3, rfl, hv3, hm3⟩
    rw [HL.out]
    have hb3 := Below.mod hb2 hm3 hg hb2.size
    go_wp2
    go_ret3
    exact .inl ⟨hok, A3, c3, rfl, hv3.more (by have := hm3.size; omega), hb3⟩
  · have hb2 := Below.mod hb1 hm2 hg hb1.size
    go_wp2
    go_ret3
    exact .inr ⟨hno, rfl, hb2⟩

theorem owp_append1 {P : Program} {w : World} {o : Oper} {a : Act} {K : Act → World → Prop} {Q : Exit → Act → World → Prop} (s x : Operand) (t : TypeId)
    (ho : o.op = .call { callee := .builtin .append, args := #[s, x], argTypes := #[t, t] })
    (base : Nat) (e : TypeId) (z : Value) (by_ : Nat) (hz1 : z.cells = #[z]) (ht : P.underlying t = some (.slice e)) (h2 : (P.info? e).map (fun i => (i.zero, i.size, i.bytes)) = some (some z, 1, by_))
    (A : Option Addr) (n c : Nat) (xs : List Value) (hs : a.eval s = .slice A n c) (hown : Own w base e A n c xs)
    (B : Nat) (ad : Addr) (m cx : Nat) (ys : List Value) (hx : a.eval x = .slice (some ad) m cx) (hv : View w B (some ad) ys) (hm : ys.length = m) (h1 : ∀ u ∈ ys, u.oneCell' = true)
    (h63 : n + m ≤ maxLen) (hbytes : (n + m) * by_ ≤ 140737488355328) (hbase : base ≤ w.heap.size) (B0 : Nat) (w0 : World) (hb0 : Below B0 w0 w) (hB0 : B0 ≤ base) (hB1 : B0 ≤ w.heap.size)
    (h : ∀ A' c' w', Hid (Own w' base e A' (n + m) c' (xs ++ ys)) → Below B0 w0 w' → Below B0 w w' → K (a.put o.dst (.slice A' (n + m) c')) w') : o.wp P a w K Q := by
  obtain ⟨i, hi, hz, hsz, hby⟩ := info_parts h2
  have hcells : ∀ j u, ys[j]? = some u → w.cell? (ad.add j) = some u := by
    intro j u hu
    obtain ⟨b, o', e1, _, hc⟩ := hv (by rintro rfl; simp at hu)
    injection e1 with e1
    subst e1
    have := hc j u hu
    unfold Addr.add
    split
    · next h0 => subst h0; simpa using this
    · exact this
  obtain ⟨v', w', hr, h2', h3, h4⟩ := run_append_own (P := P) w base t o.type e i z 1 by_ ht hi hz hsz hby (by rw [hz1]; rfl) (by omega) _ n xs hown ad m cx ys (by omega) hcells h1 h63 hbytes hbase
  obtain ⟨A', c', rfl⟩ := own_form h2'
  have hk : ∀ k, Option.map Addr.block A = some k → base ≤ k := by
    intro k hk
    rcases row_form hown with rfl | ⟨g9, rfl, h9, _⟩
    · cases hk
    · simp at hk; omega
  have hg : w.grownBy w' (A.map (·.block)) := by cases A <;> exact h3
  have hbz := (Below.refl B0 w).grown hg hB1 (fun k hk' => by have := hk k hk'; omega)
  unfold Oper.wp execOp
  simp only [ho, resolve, invoke, builtin, Sem.run_bind, Sem.run_pure, Result.andThen_ok, List.map_toArray, List.map_cons, List.map_nil, hs, hx, hr]
  exact h A' c' w' h2' (hb0.trans hbz) hbz

theorem numBE_cons (x : Nat) (l : List Nat) : numBE (x :: l) = x * 256 ^ l.length + numBE l := by
  have key : ∀ (l : List Nat) (a : Nat), l.foldl (fun a c => a * 256 + c) a = a * 256 ^ l.length + numBE l := by
    intro l
    induction l with
    | nil => intro a; simp [numBE]
    | cons y l ih =>
      intro a
      have e1 : numBE (y :: l) = y * 256 ^ l.length + numBE l := by
        show l.foldl _ (0 * 256 + y) = _
        rw [ih]; simp
      rw [List.foldl_cons, ih, e1, List.length_cons, Nat.pow_succ, Nat.add_mul, Nat.mul_assoc, Nat.mul_comm 256, Nat.add_assoc]
  show l.foldl _ (0 * 256 + x) = _
  rw [key]; simp
end Go.Proofs.Ytakmcbgfglnanaa
