
/- varint.Bits, varint.Expand, their references and power, by contracts. Conditions: the arguments fit their kinds. -/
import Derived.Test.YtakmcbgfglnanaaMath
import Derived.Test.YtakmcbgfglnanaaProg
namespace Go.Proofs.Ytakmcbgfglnanaa
open Go.RowKit

def bitsN (n a : Int) : Int :=
  if 4611686018427387903 < n ∨ n ≤ a then 0 else if n - a ≤ 128 then 1 else if n - a ≤ 32768 then 2 else if n - a ≤ 8388608 then 3 else if n - a ≤ 2147483648 then 4 else 0

def bitsE (n a : Int) : Int := if bitsN n a = 0 then 1 else 0

/-- 2 to some, as the reference's loop makes it. -/
theorem power_c (n : Nat) (w : World) (hn : n ≤ 63) :
    Calls Try.prog 91 #[.int .i64 (n : Int)] w fun e w' => e = .returned (.int .u64 ((2 : Int) ^ n)) ∧ w = w' := by
  go_enter Try.func91, Try.ntmps91
  go_wp2
  go_loop [3, 4] (fun p i => ∃ k : Nat, k ≤ n ∧ i = .int .i64 (k : Int) ∧ p = .int .u64 ((2 : Int) ^ k)) (fun _ i => n - (intOf i).toNat)
  case atStart => exact ⟨0, Nat.zero_le _, rfl, rfl⟩
  case round =>
    obtain ⟨k, hk, rfl, rfl⟩ := hrel
    by_cases hlt : k < n
    · have h2 : (0 : Int) < (2 : Int) ^ k ∧ (2 : Int) ^ k ≤ 4611686018427387904 := pow2_bd k 62 (by omega)
      go_wp2
      go_round
      case rel => exact ⟨k + 1, by omega, by go_num, by rw [Int.pow_succ]⟩
      case measure => simp [intOf]; omega
    · have : k = n := by omega
      subst this
      go_wp2
      go_ret
      exact ⟨rfl, rfl⟩

theorem power_lit (n p : Int) (w : World) (hn : 0 ≤ n ∧ n ≤ 63) (hp : p = (2 : Int) ^ n.toNat) :
    Calls Try.prog 91 #[.int .i64 n] w fun e w' => e = .returned (.int .u64 p) ∧ w = w' := by
  obtain ⟨k, rfl⟩ := Int.eq_ofNat_of_zero_le hn.1
  subst hp
  exact power_c k w (by omega)

/-- What Expand answers, of what may be: the window is 'w'. -/
def expandN (x t w : Int) : Int :=
  if (x - x % w + t) + w / 2 ≤ x ∧ x - x % w + t < 4611686018427387904 - w then x - x % w + t + w else if x + w / 2 < x - x % w + t ∧ w ≤ x - x % w + t then x - x % w + t - w else x - x % w + t

def expandBad (x t s : Int) : Prop := s < 1 ∨ 4 < s ∨ 4611686018427387903 < x ∨ (s = 1 ∧ 256 ≤ t) ∨ (s = 2 ∧ 65536 ≤ t) ∨ (s = 3 ∧ 16777216 ≤ t) ∨ (s = 4 ∧ 4294967296 ≤ t)

theorem expand_bad (x t s : Int) (w : World) (hx : 0 ≤ x ∧ x < 18446744073709551616) (ht : 0 ≤ t ∧ t < 18446744073709551616) (hs : -9223372036854775808 ≤ s ∧ s ≤ 9223372036854775807) (h : expandBad x t s) :
    Calls Try.prog 87 #[.int .u64 x, .int .u64 t, .int .i64 s] w fun e w' => e = .returned (.tuple #[.int .u64 0, .int .i64 1]) ∧ w = w' := by
  rcases h with h | h | h | ⟨rfl, h⟩ | ⟨rfl, h⟩ | ⟨rfl, h⟩ | ⟨rfl, h⟩
  · go_enter Try.func87, Try.ntmps87
    go_wp2
    go_ret2
    exact ⟨rfl, rfl⟩
  · have h1 : ¬ s < 1 := by omega
    go_enter Try.func87, Try.ntmps87
    go_wp2
    go_ret2
    exact ⟨rfl, rfl⟩
  · by_cases h1 : s < 1
    · go_enter Try.func87, Try.ntmps87
      go_wp2
      go_ret2
      exact ⟨rfl, rfl⟩
    by_cases h2 : 4 < s
    · go_enter Try.func87, Try.ntmps87
      go_wp2
      go_ret2
      exact ⟨rfl, rfl⟩
    · go_enter Try.func87, Try.ntmps87
      go_wp2
      go_ret2
      exact ⟨rfl, rfl⟩
  all_goals
    by_cases h1 : 4611686018427387903 < x
    · go_enter Try.func87, Try.ntmps87
      go_wp2
      go_ret2
      exact ⟨rfl, rfl⟩
    · go_enter Try.func87, Try.ntmps87
      go_wp2
      go_ret2
      exact ⟨rfl, rfl⟩
set_option maxHeartbeats 2000000 in
theorem expand_ok (x t s W : Int) (w : World) (hx : 0 ≤ x ∧ x ≤ 4611686018427387903) (ht : 0 ≤ t) (h : (s = 1 ∧ W = 256 ∧ t < 256) ∨ (s = 2 ∧ W = 65536 ∧ t < 65536) ∨ (s = 3 ∧ W = 16777216 ∧ t < 16777216) ∨ (s = 4 ∧ W = 4294967296 ∧ t < 4294967296)) :
    Calls Try.prog 87 #[.int .u64 x, .int .u64 t, .int .i64 s] w fun e w' => e = .returned (.tuple #[.int .u64 (expandN x t W), .int .i64 0]) ∧ w = w' := by
  rcases h with ⟨rfl, rfl, h⟩ | ⟨rfl, rfl, h⟩ | ⟨rfl, rfl, h⟩ | ⟨rfl, rfl, h⟩
  · by_cases c1 : x - x % 256 + t + 128 ≤ x
    · by_cases c2 : x - x % 256 + t < 4611686018427387904 - 256
      · go_enter Try.func87, Try.ntmps87
        go_wp2
        go_ret2
        exact ⟨ret_ii (by unfold expandN; (repeat' split) <;> omega) rfl, rfl⟩
      · go_enter Try.func87, Try.ntmps87
        go_wp2
        go_ret2
        exact ⟨ret_ii (by unfold expandN; (repeat' split) <;> omega) rfl, rfl⟩
    · by_cases c3 : x + 128 < x - x % 256 + t
      · by_cases c4 : 256 ≤ x - x % 256 + t
        · go_enter Try.func87, Try.ntmps87
          go_wp2
          go_ret2
          exact ⟨ret_ii (by unfold expandN; (repeat' split) <;> omega) rfl, rfl⟩
        · go_enter Try.func87, Try.ntmps87
          go_wp2
          go_ret2
          exact ⟨ret_ii (by unfold expandN; (repeat' split) <;> omega) rfl, rfl⟩
      · go_enter Try.func87, Try.ntmps87
        go_wp2
        go_ret2
        exact ⟨ret_ii (by unfold expandN; (repeat' split) <;> omega) rfl, rfl⟩
  · by_cases c1 : x - x % 65536 + t + 32768 ≤ x
    · by_cases c2 : x - x % 65536 + t < 4611686018427387904 - 65536
      · go_enter Try.func87, Try.ntmps87
        go_wp2
        go_ret2
        exact ⟨ret_ii (by unfold expandN; (repeat' split) <;> omega) rfl, rfl⟩
      · go_enter Try.func87, Try.ntmps87
        go_wp2
        go_ret2
        exact ⟨ret_ii (by unfold expandN; (repeat' split) <;> omega) rfl, rfl⟩
    · by_cases c3 : x + 32768 < x - x % 65536 + t
      · by_cases c4 : 65536 ≤ x - x % 65536 + t
        · go_enter Try.func87, Try.ntmps87
          go_wp2
          go_ret2
          exact ⟨ret_ii (by unfold expandN; (repeat' split) <;> omega) rfl, rfl⟩
        · go_enter Try.func87, Try.ntmps87
          go_wp2
          go_ret2
          exact ⟨ret_ii (by unfold expandN; (repeat' split) <;> omega) rfl, rfl⟩
      · go_enter Try.func87, Try.ntmps87
        go_wp2
        go_ret2
        exact ⟨ret_ii (by unfold expandN; (repeat' split) <;> omega) rfl, rfl⟩
  · by_cases c1 : x - x % 16777216 + t + 8388608 ≤ x
    · by_cases c2 : x - x % 16777216 + t < 4611686018427387904 - 16777216
      · go_enter Try.func87, Try.ntmps87
        go_wp2
        go_ret2
        exact ⟨ret_ii (by unfold expandN; (repeat' split) <;> omega) rfl, rfl⟩
      · go_enter Try.func87, Try.ntmps87
        go_wp2
        go_ret2
        exact ⟨ret_ii (by unfold expandN; (repeat' split) <;> omega) rfl, rfl⟩
    · by_cases c3 : x + 8388608 < x - x % 16777216 + t
      · by_cases c4 : 16777216 ≤ x - x % 16777216 + t
        · go_enter Try.func87, Try.ntmps87
          go_wp2
          go_ret2
          exact ⟨ret_ii (by unfold expandN; (repeat' split) <;> omega) rfl, rfl⟩
        · go_enter Try.func87, Try.ntmps87
          go_wp2
          go_ret2
          exact ⟨ret_ii (by unfold expandN; (repeat' split) <;> omega) rfl, rfl⟩
      · go_enter Try.func87, Try.ntmps87
        go_wp2
        go_ret2
        exact ⟨ret_ii (by unfold expandN; (repeat' split) <;> omega) rfl, rfl⟩
  · by_cases c1 : x - x % 4294967296 + t + 2147483648 ≤ x
    · by_cases c2 : x - x % 4294967296 + t < 4611686018427387904 - 4294967296
      · go_enter Try.func87, Try.ntmps87
        go_wp2
        go_ret2
        exact ⟨ret_ii (by unfold expandN; (repeat' split) <;> omega) rfl, rfl⟩
      · go_enter Try.func87, Try.ntmps87
        go_wp2
        go_ret2
        exact ⟨ret_ii (by unfold expandN; (repeat' split) <;> omega) rfl, rfl⟩
    · by_cases c3 : x + 2147483648 < x - x % 4294967296 + t
      · by_cases c4 : 4294967296 ≤ x - x % 4294967296 + t
        · go_enter Try.func87, Try.ntmps87
          go_wp2
          go_ret2
          exact ⟨ret_ii (by unfold expandN; (repeat' split) <;> omega) rfl, rfl⟩
        · go_enter Try.func87, Try.ntmps87
          go_wp2
          go_ret2
          exact ⟨ret_ii (by unfold expandN; (repeat' split) <;> omega) rfl, rfl⟩
      · go_enter Try.func87, Try.ntmps87
        go_wp2
        go_ret2
        exact ⟨ret_ii (by unfold expandN; (repeat' split) <;> omega) rfl, rfl⟩

theorem varint_awake_c (w : World) : Calls Try.prog 48 #[] w fun e w' => e = .returned (.bool true) ∧ w = w' := by
  go_enter Try.func48, Try.ntmps48
  go_wp2
  go_ret
  exact ⟨rfl, rfl⟩
end Go.Proofs.Ytakmcbgfglnanaa
