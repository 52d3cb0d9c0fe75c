
/- siphash.Derive by a contract. Conditions: none. -/
import Derived.Test.YtgfmjgfeiokcdaaKeysRef
namespace Go.Proofs.Ytgfmjgfeiokcdaa.Old
open Go.RowKit

def sipN (kl l : List Nat) : Nat := (sipV kl l).toNat
theorem sipN_eq (kl l : List Nat) : sipV kl l = (sipN kl l : Nat) ∧ U64 (sipN kl l) := by
  have h := finS_bd (absorbS (absN (startS kl) l (l.length / 8)) (lastW l))
  have h2 : InU (sipV kl l) := h
  unfold InU at h2
  unfold sipN U64
  omega
theorem sum_n (kl : List Nat) (A : Option Addr) (c : Nat) (l : List Nat) (n d : Nat) (w : World) (h16 : kl.length = 16) (hkb : Bytes kl) (hv : BView w w.heap.size A l) (hl : l.length = n) (hn : n ≤ 1000000) (hc : n ≤ c) (hd : sipN kl l = d) :
    Calls Try.prog 16 #[keyV kl, .slice A n c] w fun e w' => e = .returned (.int .u64 (d : Int)) ∧ Below w.heap.size w w' := by
  subst hl
  subst hd
  have h := sip_sum_c kl A c l w h16 hkb hv hn hc
  rw [(sipN_eq kl l).1] at h
  exact h
theorem ref_sum_n (kl : List Nat) (A : Option Addr) (c : Nat) (l : List Nat) (n d : Nat) (w : World) (h16 : kl.length = 16) (hkb : Bytes kl) (hv : BView w w.heap.size A l) (hl : l.length = n) (hn : n ≤ 1000000) (hc : n ≤ c) (hA : A = none → c = 0) (hd : sipN kl l = d) :
    Calls Try.prog 17 #[keyV kl, .slice A n c] w fun e w' => e = .returned (.int .u64 (d : Int)) ∧ Below w.heap.size w w' := by
  subst hl
  subst hd
  have h := ref_sip_c kl A c l w h16 hkb hv hn hc hA
  rw [sip_same hv.bytes, (sipN_eq kl l).1] at h
  exact h
/-- The key that a key yields. -/
def derK (kl : List Nat) (u : Nat) : List Nat := be (sipN kl ([1] ++ be u 8)) 8 ++ be (sipN kl ([2] ++ be u 8)) 8

end Go.Proofs.Ytgfmjgfeiokcdaa.Old
