
/- arrays of 16 bytes as functions: their equality; keys. Conditions: none. -/
import Derived.Test.YtocnmcndcdncmaaDoorJF
import Derived.ChangeKeysEq
namespace Go.Proofs.YtocnmcndcdncmaaDoor
open Go.RowKit
theorem eqItems_u8 {P : Program} {e : TypeId} (w : World) (d : Nat) (he : P.plainKey e = true) (hu : P.underlying e = some (.int .u8)) (l m : List Nat) (hlm : l.length = m.length) : ∀ is : List Nat, (∀ i ∈ is, i < l.length) → (Op.eqItems (d + 1) e 1 (l.map u8v).toArray (m.map u8v).toArray is).run P w = .ok (is.all fun i => nth l i == nth m i) w
  | [], _ => by simp [Op.eqItems]
  | i :: is, h => by
    have hil := h i (by simp)
    have hx : (l.map u8v).toArray[i * 1]? = some (u8v (nth l i)) := by
      rw [Nat.mul_one, List.getElem?_toArray, List.getElem?_map, nth_get hil]
      rfl
    have hy : (m.map u8v).toArray[i * 1]? = some (u8v (nth m i)) := by
      rw [Nat.mul_one, List.getElem?_toArray, List.getElem?_map, nth_get (hlm ▸ hil)]
      rfl
    have hp := run_part_plain (P := P) (w := w) he hx
    have hp' := run_part_plain (P := P) (w := w) he hy
    have ih := eqItems_u8 w d he hu l m hlm is (fun j hj => h j (by simp [hj]))
    have hq : (Op.equalIn (d + 1) e (u8v (nth l i)) (u8v (nth m i))).run P w = .ok (nth l i == nth m i) w := by
      have h := run_equalIn_int (P := P) w d e .u8 .u8 (nth l i : Int) (nth m i : Int) hu
      rw [show (nth l i == nth m i) = (((nth l i : Nat) : Int) == ((nth m i : Nat) : Int)) by rw [Bool.eq_iff_iff]; simp; omega]
      exact h
    simp only [Op.eqItems, Sem.run_bind, hp, hp', hq, Result.andThen_ok]
    cases hb : (nth l i == nth m i)
    · simp [hb]
    · simp [hb, ih]
theorem all_nth {l m : List Nat} (hlm : l.length = m.length) : ((List.range l.length).all fun i => nth l i == nth m i) = decide (l = m) := by
  rw [Bool.eq_iff_iff, decide_eq_true_iff, List.all_eq_true]
  constructor
  · intro h
    apply List.ext_getElem hlm
    intro i h1 h2
    have := h i (List.mem_range.2 h1)
    have a := nth_get h1
    have b := nth_get h2
    rw [List.getElem?_eq_getElem h1] at a
    rw [List.getElem?_eq_getElem h2] at b
    injection a with a
    injection b with b
    rw [a, b]
    simpa using this
  · rintro rfl i _
    simp
theorem eqv_u8s {P : Program} {d n : Nat} {t e : TypeId} (hu : P.underlying t = some (.array n e)) (he : P.plainKey e = true) (hue : P.underlying e = some (.int .u8)) (hc : P.cellsOf e = 1) (hi : (P.info? e).isSome = true) (l m : List Nat) (hl : l.length = n) (hm : m.length = n) : EqV P (d + 2) t (.agg (l.map u8v).toArray) (.agg (m.map u8v).toArray) (decide (l = m)) := fun w => by
  obtain ⟨i, hi⟩ : ∃ i, P.info? e = some i := Option.isSome_iff_exists.1 hi
  rw [run_equalIn_array (P := P) (w := w) (d + 1) _ _ hu hi, hc, ← all_nth (hl.trans hm.symm), hl]
  exact eqItems_u8 w d he hue l m (hl.trans hm.symm) _ fun i h => by rw [hl]; exact List.mem_range.1 h
/-- A block of the call's own is a row. -/
theorem St.torow {F : List Nat} {w0 w : World} {M : List Ent} (h : St F w0 M w) (i : Nat) {g : Nat} {e : TypeId} {l : List Value} (n s : Nat) (hM : M[i]? = some (.blk g e l)) (hl : l.length = n * s) (hn : n ≤ maxLen) : St F w0 (M.set i (.row (.slice (some ⟨g, 0, none⟩) n n) e s n l)) w := by
  have hA : Arr w g e l := h.ok _ (mem_of_get hM)
  refine h.set_ hM rfl (Kp.refl _ _) ?_ rfl fun g' hg => .inl hg
  exact ⟨hl, .inr ⟨g, n, l.toArray, rfl, Nat.zero_le _, hA, Nat.le_refl _, hn, by simpa using hl, by rw [← hl]; simp⟩⟩
theorem x_sliceA {P : Program} {a : Act} {w : World} {x : Operand} {d : Option Tmp} {ty s e : TypeId} {pos : String} {aft : Array Edge} {g : Option (Nat × Bool)} {N sz b o : Nat} (hs : P.underlying s = some (.array N e)) (hz : (P.info? e).map (·.size) = some sz) (h0 : Nat.beq N 0 = false) (hx : a.eval x = .pointer (some ⟨b, o, none⟩)) :
    (execOp a.eval ⟨d, .slice s x none none none, ty, pos, aft, g⟩).run P w = .ok (.value (.slice (some ⟨b, o, none⟩) N N)) w := by
  obtain ⟨ti, hi', hti⟩ : ∃ ti, P.info? e = some ti ∧ ti.size = sz := by
    cases h : P.info? e with
    | none => rw [h] at hz; cases hz
    | some ti => rw [h] at hz; exact ⟨ti, rfl, by simpa using hz⟩
  have hn : N ≠ 0 := by
    rintro rfl
    cases h0
  unfold execOp
  simp [hx, Instr.sliceAt, Instr.sureAddr, Instr.sliceBounds, run_underlying hs, sizeOf, typeInfo, hi', hti, Addr.add, hn]
theorem x_lenS {P : Program} {a : Act} {w : World} {x : Operand} {d : Option Tmp} {ty s : TypeId} {pos : String} {aft : Array Edge} {g : Option (Nat × Bool)} {b : ByteArray} (hs : P.underlying s = some .string) (hx : a.eval x = .string b) : (execOp a.eval ⟨d, .call { callee := .builtin .len, args := #[x], argTypes := #[s] }, ty, pos, aft, g⟩).run P w = .ok (.value (.int .i64 (b.size : Int))) w := by
  unfold execOp
  simp [resolve, invoke, builtin, Builtin.len_, hx, run_underlying hs, goInt]
def kL (k : Nat → Nat) : List Nat := [k 0, k 1, k 2, k 3, k 4, k 5, k 6, k 7, k 8, k 9, k 10, k 11, k 12, k 13, k 14, k 15]
def kC (k : Nat → Nat) : List Value := [u8v (k 0), u8v (k 1), u8v (k 2), u8v (k 3), u8v (k 4), u8v (k 5), u8v (k 6), u8v (k 7), u8v (k 8), u8v (k 9), u8v (k 10), u8v (k 11), u8v (k 12), u8v (k 13), u8v (k 14), u8v (k 15)]
def kF (l : List Nat) : Nat → Nat := fun i => nth l i
theorem kC_eq (k : Nat → Nat) : (kL k).map u8v = kC k := rfl
theorem kL_len (k : Nat → Nat) : (kL k).length = 16 := rfl
theorem list16' {l : List Nat} (h : l.length = 16) : ∃ k0 k1 k2 k3 k4 k5 k6 k7 k8 k9 k10 k11 k12 k13 k14 k15, l = [k0, k1, k2, k3, k4, k5, k6, k7, k8, k9, k10, k11, k12, k13, k14, k15] := by
  match l, h with
  | [k0, k1, k2, k3, k4, k5, k6, k7, k8, k9, k10, k11, k12, k13, k14, k15], _ => exact ⟨_, _, _, _, _, _, _, _, _, _, _, _, _, _, _, _, rfl⟩
theorem kL_kF {l : List Nat} (h : l.length = 16) : kL (kF l) = l := by
  obtain ⟨k0, k1, k2, k3, k4, k5, k6, k7, k8, k9, k10, k11, k12, k13, k14, k15, rfl⟩ := list16' h
  rfl
theorem kC_kF {l : List Nat} (h : l.length = 16) : kC (kF l) = l.map u8v := by rw [← kC_eq, kL_kF h]
theorem eqv_k16 {P : Program} {d : Nat} {t e : TypeId} (hu : P.underlying t = some (.array 16 e)) (he : P.plainKey e = true) (hue : P.underlying e = some (.int .u8)) (hc : P.cellsOf e = 1) (hi : (P.info? e).isSome = true) {k m : Nat → Nat} : EqV P (d + 2) t (.agg (kC k).toArray) (.agg (kC m).toArray) (decide (kL k = kL m)) := eqv_u8s hu he hue hc hi (kL k) (kL m) rfl rfl
end Go.Proofs.YtocnmcndcdncmaaDoor
