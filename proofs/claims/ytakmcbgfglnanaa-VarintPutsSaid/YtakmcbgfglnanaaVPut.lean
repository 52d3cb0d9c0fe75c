
/- varint.class, Size, Put and the reference's Size and Bytes by contracts. Conditions: the number fits its kind. -/
import Derived.Test.YtakmcbgfglnanaaVRef
namespace Go.Proofs.Ytakmcbgfglnanaa
open Go.RowKit

/-- Of a number: its class, its bytes, and the mark's worth. -/
def VCls (n q s m : Nat) : Prop := (n < 64 ∧ q = 0 ∧ s = 1 ∧ m = 0) ∨ (64 ≤ n ∧ n < 16384 ∧ q = 1 ∧ s = 2 ∧ m = 16384) ∨ (16384 ≤ n ∧ n < 1073741824 ∧ q = 2 ∧ s = 4 ∧ m = 2147483648) ∨ (1073741824 ≤ n ∧ n < 4611686018427387904 ∧ q = 3 ∧ s = 8 ∧ m = 13835058055282163712)

/-- The same of an integer. -/
def VClsI (n : Int) (q s m : Nat) : Prop := (n < 64 ∧ q = 0 ∧ s = 1 ∧ m = 0) ∨ (64 ≤ n ∧ n < 16384 ∧ q = 1 ∧ s = 2 ∧ m = 16384) ∨ (16384 ≤ n ∧ n < 1073741824 ∧ q = 2 ∧ s = 4 ∧ m = 2147483648) ∨ (1073741824 ≤ n ∧ n < 4611686018427387904 ∧ q = 3 ∧ s = 8 ∧ m = 13835058055282163712)
theorem vcls_int {n q s m : Nat} (h : VCls n q s m) : VClsI (n : Int) q s m := by
  unfold VCls at h
  unfold VClsI
  omega

theorem class_c (n q s m : Nat) (w : World) (h : VCls n q s m) :
    Calls Try.prog 94 #[.int .u64 (n : Int)] w fun e w' => e = .returned (.tuple #[.int .u64 (q : Int), .bool true]) ∧ w = w' := by
  have hn0 : (0 : Int) ≤ (n : Int) := by omega
  have HC := Lib.hid (vcls_int h)
  clear h
  generalize (n : Int) = N at *
  go_enter Try.func94, Try.ntmps94
  go_wp2
  go_loop [5] (fun i => (i = .int .u64 0) ∨ (i = .int .u64 1 ∧ 64 ≤ N) ∨ (i = .int .u64 2 ∧ 16384 ≤ N) ∨ (i = .int .u64 3 ∧ 1073741824 ≤ N)) (fun i => 4 - (intOf i).toNat)
  case atStart => exact .inl rfl
  case round =>
    rcases hrel with rfl | ⟨rfl, hd⟩ | ⟨rfl, hd⟩ | ⟨rfl, hd⟩
    · by_cases hlt : N < 64
      · skip
        go_wp2_with fail
        refine (vlength_l 0 1 _ (by omega)).mono ?_
        rintro e w' ⟨rfl, rfl⟩
        go_wp2_with fail
        go_ret2
        have := HC.out
        exact ⟨by unfold VClsI at this; congr 1; simp; omega, rfl⟩
      · skip
        go_wp2_with fail
        refine (vlength_l 0 1 _ (by omega)).mono ?_
        rintro e w' ⟨rfl, rfl⟩
        go_wp2_with fail
        go_round
        case rel => exact .inr (.inl ⟨by go_num, by omega⟩)
        case measure => simp [intOf]
    · by_cases hlt : N < 16384
      · skip
        go_wp2_with fail
        refine (vlength_l 1 2 _ (by omega)).mono ?_
        rintro e w' ⟨rfl, rfl⟩
        go_wp2_with fail
        go_ret2
        have := HC.out
        exact ⟨by unfold VClsI at this; congr 1; simp; omega, rfl⟩
      · skip
        go_wp2_with fail
        refine (vlength_l 1 2 _ (by omega)).mono ?_
        rintro e w' ⟨rfl, rfl⟩
        go_wp2_with fail
        go_round
        case rel => exact .inr (.inr (.inl ⟨by go_num, by omega⟩))
        case measure => simp [intOf]
    · by_cases hlt : N < 1073741824
      · skip
        go_wp2_with fail
        refine (vlength_l 2 4 _ (by omega)).mono ?_
        rintro e w' ⟨rfl, rfl⟩
        go_wp2_with fail
        go_ret2
        have := HC.out
        exact ⟨by unfold VClsI at this; congr 1; simp; omega, rfl⟩
      · skip
        go_wp2_with fail
        refine (vlength_l 2 4 _ (by omega)).mono ?_
        rintro e w' ⟨rfl, rfl⟩
        go_wp2_with fail
        go_round
        case rel => exact .inr (.inr (.inr ⟨by go_num, by omega⟩))
        case measure => simp [intOf]
    · have h2 : N < 4611686018427387904 := by have := HC.out; unfold VClsI at this; omega
      go_wp2_with fail
      refine (vlength_l 3 8 _ (by omega)).mono ?_
      rintro e w' ⟨rfl, rfl⟩
      go_wp2_with fail
      go_ret2
      have := HC.out
      exact ⟨by unfold VClsI at this; congr 1; simp; omega, rfl⟩

set_option maxRecDepth 100000 in
theorem class_no (n : Nat) (w : World) (h : 4611686018427387904 ≤ n) :
    Calls Try.prog 94 #[.int .u64 (n : Int)] w fun e w' => e = .returned (.tuple #[.int .u64 0, .bool false]) ∧ w = w' := by
  have hn0 : (4611686018427387904 : Int) ≤ (n : Int) := by omega
  have hn1 : (64 : Int) ≤ (n : Int) ∧ (16384 : Int) ≤ (n : Int) ∧ (1073741824 : Int) ≤ (n : Int) ∧ (4611686018427387904 : Int) ≤ (n : Int) := by omega
  obtain ⟨h1, h2, h3, h4⟩ := hn1
  clear h
  generalize (n : Int) = N at *
  go_enter Try.func94, Try.ntmps94
  go_wp2
  go_loop [5] (fun i => (i = .int .u64 0) ∨ (i = .int .u64 1) ∨ (i = .int .u64 2) ∨ (i = .int .u64 3) ∨ i = .int .u64 4) (fun i => 5 - (intOf i).toNat)
  case atStart => exact .inl rfl
  case round =>
    rcases hrel with rfl | rfl | rfl | rfl | rfl
    · go_wp2_with fail
      refine (vlength_l 0 1 _ (by omega)).mono ?_
      rintro e w' ⟨rfl, rfl⟩
      go_wp2_with fail
      go_round
      case rel => exact .inr (.inl (by go_num))
      case measure => simp [intOf]
    · go_wp2_with fail
      refine (vlength_l 1 2 _ (by omega)).mono ?_
      rintro e w' ⟨rfl, rfl⟩
      go_wp2_with fail
      go_round
      case rel => exact .inr (.inr (.inl (by go_num)))
      case measure => simp [intOf]
    · go_wp2_with fail
      refine (vlength_l 2 4 _ (by omega)).mono ?_
      rintro e w' ⟨rfl, rfl⟩
      go_wp2_with fail
      go_round
      case rel => exact .inr (.inr (.inr (.inl (by go_num))))
      case measure => simp [intOf]
    · go_wp2_with fail
      refine (vlength_l 3 8 _ (by omega)).mono ?_
      rintro e w' ⟨rfl, rfl⟩
      go_wp2_with fail
      go_round
      case rel => exact .inr (.inr (.inr (.inr (by go_num))))
      case measure => simp [intOf]
    · go_wp2_with fail
      go_ret2
      exact ⟨rfl, rfl⟩

theorem vSize_c (n q s m : Nat) (w : World) (h : VCls n q s m) :
    Calls Try.prog 53 #[.int .u64 (n : Int)] w fun e w' => e = .returned (.int .i64 (s : Int)) ∧ w = w' := by
  go_enter Try.func53, Try.ntmps53
  go_wp2_with fail
  refine (class_c n q s m w h).mono ?_
  rintro e w' ⟨rfl, rfl⟩
  go_wp2_with fail
  refine (vlength_l q s _ (by unfold VCls at h; omega)).mono ?_
  rintro e w' ⟨rfl, rfl⟩
  go_wp2_with fail
  go_ret
  exact ⟨rfl, rfl⟩
theorem vSize_no (n : Nat) (w : World) (h : 4611686018427387904 ≤ n) :
    Calls Try.prog 53 #[.int .u64 (n : Int)] w fun e w' => e = .returned (.int .i64 0) ∧ w = w' := by
  go_enter Try.func53, Try.ntmps53
  go_wp2_with fail
  refine (class_no n w h).mono ?_
  rintro e w' ⟨rfl, rfl⟩
  go_wp2_with fail
  go_ret
  exact ⟨rfl, rfl⟩

set_option maxRecDepth 100000 in
theorem ref_size_c (n q s m : Nat) (w : World) (h : VCls n q s m) :
    Calls Try.prog 54 #[.int .u64 (n : Int)] w fun e w' => e = .returned (.int .i64 (s : Int)) ∧ w = w' := by
  have hn0 : (0 : Int) ≤ (n : Int) := by omega
  have HC := Lib.hid (vcls_int h)
  clear h
  generalize (n : Int) = N at *
  go_enter Try.func54, Try.ntmps54
  go_wp2
  go_loop [3] (fun i => (i = .int .i64 0) ∨ (i = .int .i64 1 ∧ 64 ≤ N) ∨ (i = .int .i64 2 ∧ 16384 ≤ N) ∨ (i = .int .i64 3 ∧ 1073741824 ≤ N)) (fun i => 4 - (intOf i).toNat)
  case atStart => exact .inl rfl
  case round =>
    rcases hrel with rfl | ⟨rfl, hd⟩ | ⟨rfl, hd⟩ | ⟨rfl, hd⟩
    · by_cases hlt : N < 64
      · skip
        go_wp2_with fail
        refine (power_lit 0 1 _ (by decide) (by decide)).mono ?_
        rintro e w' ⟨rfl, rfl⟩
        go_wp2_with fail
        refine (power_lit 6 64 _ (by decide) (by decide)).mono ?_
        rintro e w' ⟨rfl, rfl⟩
        go_wp2_with fail
        go_ret
        have := HC.out
        exact ⟨by unfold VClsI at this; congr 1; simp; omega, rfl⟩
      · skip
        go_wp2_with fail
        refine (power_lit 0 1 _ (by decide) (by decide)).mono ?_
        rintro e w' ⟨rfl, rfl⟩
        go_wp2_with fail
        refine (power_lit 6 64 _ (by decide) (by decide)).mono ?_
        rintro e w' ⟨rfl, rfl⟩
        go_wp2_with fail
        go_round
        case rel => simp; omega
        case measure => simp [intOf]
    · by_cases hlt : N < 16384
      · skip
        go_wp2_with fail
        refine (power_lit 1 2 _ (by decide) (by decide)).mono ?_
        rintro e w' ⟨rfl, rfl⟩
        go_wp2_with fail
        refine (power_lit 14 16384 _ (by decide) (by decide)).mono ?_
        rintro e w' ⟨rfl, rfl⟩
        go_wp2_with fail
        go_ret
        have := HC.out
        exact ⟨by unfold VClsI at this; congr 1; simp; omega, rfl⟩
      · skip
        go_wp2_with fail
        refine (power_lit 1 2 _ (by decide) (by decide)).mono ?_
        rintro e w' ⟨rfl, rfl⟩
        go_wp2_with fail
        refine (power_lit 14 16384 _ (by decide) (by decide)).mono ?_
        rintro e w' ⟨rfl, rfl⟩
        go_wp2_with fail
        go_round
        case rel => simp; omega
        case measure => simp [intOf]
    · by_cases hlt : N < 1073741824
      · skip
        go_wp2_with fail
        refine (power_lit 2 4 _ (by decide) (by decide)).mono ?_
        rintro e w' ⟨rfl, rfl⟩
        go_wp2_with fail
        refine (power_lit 30 1073741824 _ (by decide) (by decide)).mono ?_
        rintro e w' ⟨rfl, rfl⟩
        go_wp2_with fail
        go_ret
        have := HC.out
        exact ⟨by unfold VClsI at this; congr 1; simp; omega, rfl⟩
      · skip
        go_wp2_with fail
        refine (power_lit 2 4 _ (by decide) (by decide)).mono ?_
        rintro e w' ⟨rfl, rfl⟩
        go_wp2_with fail
        refine (power_lit 30 1073741824 _ (by decide) (by decide)).mono ?_
        rintro e w' ⟨rfl, rfl⟩
        go_wp2_with fail
        go_round
        case rel => simp; omega
        case measure => simp [intOf]
    · have h2 : N < 4611686018427387904 := by have := HC.out; unfold VClsI at this; omega
      go_wp2_with fail
      refine (power_lit 3 8 _ (by decide) (by decide)).mono ?_
      rintro e w' ⟨rfl, rfl⟩
      go_wp2_with fail
      refine (power_lit 62 4611686018427387904 _ (by decide) (by decide)).mono ?_
      rintro e w' ⟨rfl, rfl⟩
      go_wp2_with fail
      go_ret
      have := HC.out
      exact ⟨by unfold VClsI at this; congr 1; simp; omega, rfl⟩
set_option maxRecDepth 100000 in
theorem ref_size_no (n : Nat) (w : World) (h : 4611686018427387904 ≤ n) :
    Calls Try.prog 54 #[.int .u64 (n : Int)] w fun e w' => e = .returned (.int .i64 0) ∧ w = w' := by
  have hn1 : (64 : Int) ≤ (n : Int) ∧ (16384 : Int) ≤ (n : Int) ∧ (1073741824 : Int) ≤ (n : Int) ∧ (4611686018427387904 : Int) ≤ (n : Int) := by omega
  obtain ⟨h1, h2, h3, h4⟩ := hn1
  clear h
  generalize (n : Int) = N at *
  go_enter Try.func54, Try.ntmps54
  go_wp2
  go_loop [3] (fun i => (i = .int .i64 0) ∨ (i = .int .i64 1) ∨ (i = .int .i64 2) ∨ (i = .int .i64 3) ∨ i = .int .i64 4) (fun i => 5 - (intOf i).toNat)
  case atStart => exact .inl rfl
  case round =>
    rcases hrel with rfl | rfl | rfl | rfl | rfl
    · go_wp2_with fail
      refine (power_lit 0 1 _ (by decide) (by decide)).mono ?_
      rintro e w' ⟨rfl, rfl⟩
      go_wp2_with fail
      refine (power_lit 6 64 _ (by decide) (by decide)).mono ?_
      rintro e w' ⟨rfl, rfl⟩
      go_wp2_with fail
      go_round
      case rel => simp
      case measure => simp [intOf]
    · go_wp2_with fail
      refine (power_lit 1 2 _ (by decide) (by decide)).mono ?_
      rintro e w' ⟨rfl, rfl⟩
      go_wp2_with fail
      refine (power_lit 14 16384 _ (by decide) (by decide)).mono ?_
      rintro e w' ⟨rfl, rfl⟩
      go_wp2_with fail
      go_round
      case rel => simp
      case measure => simp [intOf]
    · go_wp2_with fail
      refine (power_lit 2 4 _ (by decide) (by decide)).mono ?_
      rintro e w' ⟨rfl, rfl⟩
      go_wp2_with fail
      refine (power_lit 30 1073741824 _ (by decide) (by decide)).mono ?_
      rintro e w' ⟨rfl, rfl⟩
      go_wp2_with fail
      go_round
      case rel => simp
      case measure => simp [intOf]
    · go_wp2_with fail
      refine (power_lit 3 8 _ (by decide) (by decide)).mono ?_
      rintro e w' ⟨rfl, rfl⟩
      go_wp2_with fail
      refine (power_lit 62 4611686018427387904 _ (by decide) (by decide)).mono ?_
      rintro e w' ⟨rfl, rfl⟩
      go_wp2_with fail
      go_round
      case rel => simp
      case measure => simp [intOf]
    · go_wp2_with fail
      go_ret
      exact ⟨rfl, rfl⟩
end Go.Proofs.Ytakmcbgfglnanaa
