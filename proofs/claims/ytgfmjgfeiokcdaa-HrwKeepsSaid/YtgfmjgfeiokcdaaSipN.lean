
/- siphash and the reference's, by contract, as the engine sees them. Conditions: none but bounds. -/
import Derived.Test.YtgfmjgfeiokcdaaKeysRefDerive
import Derived.Test.YtgfmjgfeiokcdaaArr
import Derived.Test.YtgfmjgfeiokcdaaNum
import Derived.Test.YtgfmjgfeiokcdaaTy
namespace Go.Proofs.Ytgfmjgfeiokcdaa
open Go.RowKit
def sipF (k : Nat → Nat) (l : List Nat) : Nat := Old.sipN (kL k) l
theorem sipF_lt (k : Nat → Nat) (l : List Nat) : sipF k l < 18446744073709551616 := (Old.sipN_eq (kL k) l).2
theorem keyV_kF {l : List Nat} (h : l.length = 16) : Old.keyV l = .agg (kC (kF l)).toArray := by unfold Old.keyV; rw [kC_kF h]
def derF (k : Nat → Nat) (u : Nat) : Nat → Nat := kF (be (sipF k ([1] ++ be u 8)) 8 ++ be (sipF k ([2] ++ be u 8)) 8)
theorem der_len (a b : Nat) : (be a 8 ++ be b 8).length = 16 := by simp [be_length]
theorem derF_bytes (k : Nat → Nat) (u : Nat) : Bytes (kL (derF k u)) := by
  unfold derF
  rw [kL_kF (der_len _ _)]
  exact (be_bytes _ _).append (be_bytes _ _)
def ofF (H L : Nat) : Nat → Nat := kF (be H 8 ++ be L 8)
theorem ofF_bytes (H L : Nat) : Bytes (kL (ofF H L)) := by
  unfold ofF
  rw [kL_kF (der_len _ _)]
  exact (be_bytes _ _).append (be_bytes _ _)
theorem kL_ofF (H L : Nat) : kL (ofF H L) = be H 8 ++ be L 8 := kL_kF (der_len _ _)
theorem sum_c (k : Nat → Nat) (A : Option Addr) (n c : Nat) (l : List Nat) (w0 : World) (hkb : Bytes (kL k)) (hv : View w0 w0.heap.size A (l.map u8v)) (hl : l.length = n) (hb : Bytes l) (hn4 : n ≤ 1000000) (hc : n ≤ c) :
    Calls Try.prog 16 #[.agg (kC k).toArray, .slice A n c] w0 fun e w' => e = .returned (.int .u64 (sipF k l : Int)) ∧ Kp [] w0 w' :=
  Calls.mono (Old.sum_n (kL k) A c l n _ w0 rfl hkb ⟨hb, hv⟩ hl hn4 hc rfl) fun e w' h => ⟨h.1, Kp.of_below h.2⟩
theorem rsum_c (k : Nat → Nat) (A : Option Addr) (n c : Nat) (l : List Nat) (w0 : World) (hkb : Bytes (kL k)) (hv : View w0 w0.heap.size A (l.map u8v)) (hl : l.length = n) (hb : Bytes l) (hn4 : n ≤ 1000000) (hc : n ≤ c) (hA : A = none → c = 0) :
    Calls Try.prog 17 #[.agg (kC k).toArray, .slice A n c] w0 fun e w' => e = .returned (.int .u64 (sipF k l : Int)) ∧ Kp [] w0 w' :=
  Calls.mono (Old.ref_sum_n (kL k) A c l n _ w0 rfl hkb ⟨hb, hv⟩ hl hn4 hc hA rfl) fun e w' h => ⟨h.1, Kp.of_below h.2⟩
end Go.Proofs.Ytgfmjgfeiokcdaa
