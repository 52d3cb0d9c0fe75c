
/- Reading an array of 16 bytes. -/
import Derived.Test.YtgfmjgfeiokcdaaArr
import Derived.Test.YtgfmjgfeiokcdaaO
namespace Go.Proofs.Ytgfmjgfeiokcdaa
open Go.ChangeShapes Go.WideShapes Go.ChangeAt Go.RowKit
theorem t_k16 {H : Type} {enc : TypeId × Value → H} {P : Program} {w : World} {t e : TypeId} {fuel : Nat} {cs : List Value} {x : DataW H × List MemPlace} (ht : P.underlying t = some (.array 16 e)) (he : P.underlying e = some (.int .u8)) (hC1 : P.cellsOf e = 1) (hC : P.cellsOf t = 16) (h : DataW.trod enc P w 0 (fun _ => true) true fuel t cs = some x) (_ : ∀ p ∈ x.2, p.block < w.heap.size) :
    ∃ k : Nat → Nat, cs = kC k ∧ Bytes (kL k) := by
  obtain ⟨xs, m, _, _, hl, hx, hi⟩ := DataW.trod_array ht h
  rw [hC] at hl
  obtain ⟨kl, hkl, hok⟩ := list_decode u8v (fun n => n < 256) cs (by
    intro c hc
    obtain ⟨i, hil, rfl⟩ := List.getElem_of_mem hc
    have h := hi i (by omega)
    rw [hC1, Nat.mul_one, List.drop_eq_getElem_cons hil] at h
    rw [List.getElem?_eq_getElem (by omega)] at h
    obtain ⟨a, ea, _, wa⟩ := DataW.trod_int he h
    change [cs[i]] = [_] at ea
    have e2 : cs[i] = .int .u8 a := by injection ea
    have wa := wf_u8 wa
    exact ⟨a.toNat, by rw [e2]; simp [u8v]; omega, by omega⟩)
  have h16 : kl.length = 16 := by
    have := congrArg List.length hkl
    simp at this
    omega
  exact ⟨kF kl, by rw [kC_kF h16, hkl], by rw [kL_kF h16]; exact hok⟩
theorem arg_k16 {H : Type} {enc : TypeId × Value → H} {P : Program} {w : World} {t e : TypeId} {r : Reach} {b0 : Nat} {v : Value} {d : DataW H} {ps : List MemPlace} (ht : P.underlying t = some (.array 16 e)) (he : P.underlying e = some (.int .u8)) (hC1 : P.cellsOf e = 1) (hC : P.cellsOf t = 16)
    (hval : Value.okWide P w r b0 t v) (hd : DataW.Trod enc P w 0 (fun _ => true) true t v d ps) : ∃ k : Nat → Nat, v = .agg (kC k).toArray ∧ Bytes (kL k) := by
  simp only [Value.okWide, ht] at hval
  obtain ⟨cs, rfl, h2, _⟩ := hval
  obtain ⟨fuel, hf⟩ := hd
  simp only [Value.cells] at hf
  obtain ⟨xs, m, _, _, hl, hx, hi⟩ := DataW.trod_array ht hf
  rw [hC] at hl
  obtain ⟨kl, hkl, hok⟩ := list_decode u8v (fun n => n < 256) cs.toList (by
    intro c hc
    obtain ⟨i, hil, rfl⟩ := List.getElem_of_mem hc
    have h := hi i (by omega)
    rw [hC1, Nat.mul_one, List.drop_eq_getElem_cons hil] at h
    rw [List.getElem?_eq_getElem (by omega)] at h
    obtain ⟨a, ea, _, wa⟩ := DataW.trod_int he h
    change [cs.toList[i]] = [_] at ea
    have e2 : cs.toList[i] = .int .u8 a := by injection ea
    have wa := wf_u8 wa
    exact ⟨a.toNat, by rw [e2]; simp [u8v]; omega, by omega⟩)
  have h16 : kl.length = 16 := by
    have := congrArg List.length hkl
    simp at this hl
    omega
  exact ⟨kF kl, by rw [kC_kF h16, ← hkl], by rw [kL_kF h16]; exact hok⟩
end Go.Proofs.Ytgfmjgfeiokcdaa
