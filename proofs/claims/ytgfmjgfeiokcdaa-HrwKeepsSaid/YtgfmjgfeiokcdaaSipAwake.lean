
/- The chapter's example of siphash, and a key as an argument. Conditions: none. -/
import Derived.Test.YtgfmjgfeiokcdaaSipRefMain
import Derived.Test.YtgfmjgfeiokcdaaKit
namespace Go.Proofs.Ytgfmjgfeiokcdaa.Old
open Go.RowKit

def exK (k : Nat) : List Nat := List.range k ++ List.replicate (16 - k) 0
theorem exK_set : ∀ k, k < 16 → (exK k).set k k = exK (k + 1) := by decide
theorem exK_at : ∀ k, k < 16 → (exK k)[k]? = some 0 := by decide
theorem range_snoc (k : Nat) : List.range k ++ [k] = List.range (k + 1) := (List.range_succ).symm
theorem ex_sum : sipV (List.range 16) (List.range 15) = 11613035633349379557 := by decide +kernel

open Go.ChangeShapes Go.WideShapes Go.ChangeAt in
set_option maxRecDepth 100000 in
/-- A key as an argument. -/
theorem open_key {H : Type} {enc : TypeId × Value → H} {r : Reach} {b0 : Nat} {v : Value} {d : DataW H} {ps : List MemPlace} {w : World}
    (hval : Value.okWide Try.prog w r b0 22 v) (hd : DataW.Trod enc Try.prog w 0 (fun _ => true) true 22 v d ps) : ∃ kl : List Nat, v = keyV kl ∧ kl.length = 16 ∧ Bytes kl := by
  have hC : Try.prog.cellsOf 22 = 16 := by kernel_rfl
  have hC1 : Try.prog.cellsOf 5 = 1 := by kernel_rfl
  simp only [Value.okWide, Try.underlying22] at hval
  obtain ⟨cs, rfl, h2, _⟩ := hval
  obtain ⟨fuel, hf⟩ := hd
  obtain ⟨xs, m, _, _, hl, hx, hi⟩ := DataW.trod_array Try.underlying22 hf
  rw [hC] at hl
  simp only [Value.cells] at hl hi
  obtain ⟨kl, hkl, hok⟩ := list_decode u8v (fun n => n < 256) cs.toList (by
    intro c hc
    obtain ⟨i, hil, rfl⟩ := List.getElem_of_mem hc
    have h := hi i (by omega)
    rw [hC1, Nat.mul_one, List.drop_eq_getElem_cons hil] at h
    rw [List.getElem?_eq_getElem (by omega)] at h
    obtain ⟨a, ea, _, wa⟩ := DataW.trod_int Try.underlying5 h
    have e2 : cs.toList[i] = .int .u8 a := by simpa using ea
    have wa := wf_u8 wa
    exact ⟨a.toNat, by rw [e2]; simp [u8v]; omega, by omega⟩)
  refine ⟨kl, ?_, ?_, hok⟩
  · unfold keyV
    rw [← hkl]
  · have := congrArg List.length hkl
    simp at this hl
    omega
end Go.Proofs.Ytgfmjgfeiokcdaa.Old
