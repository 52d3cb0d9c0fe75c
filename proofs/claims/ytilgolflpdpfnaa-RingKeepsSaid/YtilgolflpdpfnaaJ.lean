/- The engine's sixth part: rows of bytes: copies, views of parts, strings. Any program. -/
import Derived.Test.YtilgolflpdpfnaaI
import Derived.Laws.StructEq
namespace Go.Proofs.Ytilgolflpdpfnaa
open Go.RowKit

section
variable {F : List Nat} {w0 w w' : World} {M : List Ent} {e : Ent} {i : Nat}
/-- The same memory, written otherwise. -/
theorem St.nm {M' : List Ent} (h : St F w0 M w) (e : M = M') : St F w0 M' w := e ▸ h
theorem vw_blk {A A' : Option Addr} {xs xs' : List Value} (hA : A'.map (·.block) = A.map (·.block)) (hx : xs' ≠ [] → xs ≠ []) (g : Nat) (h : (Ent.vw A' xs').blk? = some g) : (Ent.vw A xs).blk? = some g := by
  cases xs' with
  | nil => cases h
  | cons x l =>
    cases xs with
    | nil => exact absurd rfl (hx (by simp))
    | cons y l' => simp only [Ent.blk?] at h ⊢; rw [← hA]; exact h
end

section
variable {F : List Nat} {w0 w w' : World} {M : List Ent} {P : Program} {a : Act} {x y : Operand} {d : Nat} {t t' ty : TypeId} {pos : String} {aft : Array Edge} {gd : Option (Nat × Bool)} {v : Value} {n : Nat} {f : Nat → Value} {K : Act → World → Prop} {Q : Exit → Act → World → Prop}
end

section
variable {P : Program} {a : Act} {w : World} {x y : Operand} {d : Option Tmp} {t t' ty : TypeId} {pos : String} {aft : Array Edge} {g : Option (Nat × Bool)} {v u : Value}
end

section
variable {F : List Nat} {w0 w w' : World} {M : List Ent}
end
/-! ### parts of rows, by their distance -/
/-- The address A lies p cells behind A0, where any of the n cells is left. -/
def Off (A0 : Option Addr) (p n : Nat) (A : Option Addr) : Prop := p < n → A = A0.map (·.add p)
theorem off_view {w : World} {B : Nat} {A0 A : Option Addr} {p n : Nat} {xs : List Value} (hv : View w B A0 xs) (hl : xs.length = n) (h : Off A0 p n A) (k : Nat) : View w B A ((xs.drop p).take k) := by
  by_cases hp : p < n
  · rw [h hp]
    have := (hv.cut (k := p) (c := p + n + 1) (by omega)).take k
    rw [if_neg (by omega)] at this
    exact this
  · rw [List.drop_eq_nil_of_le (by omega), List.take_nil]
    exact View.nil_
theorem off_blk {A0 A : Option Addr} {p n k : Nat} {xs : List Value} (hl : xs.length = n) (h : Off A0 p n A) (g : Nat) (hg : (Ent.vw A ((xs.drop p).take k)).blk? = some g) : (Ent.vw A0 xs).blk? = some g := by
  by_cases hp : p < n
  · rw [h hp] at hg
    refine vw_blk ?_ (fun hx => ?_) g hg
    · cases A0 with
      | none => rfl
      | some a => simp [Addr.add]; split <;> rfl
    · rintro rfl; simp at hx
  · rw [List.drop_eq_nil_of_le (by omega), List.take_nil] at hg; cases hg
/-- Seen, and newer than w. -/
def NewV (w w' : World) (A : Option Addr) (xs : List Value) : Prop := View w' w'.heap.size A xs ∧ ∀ g, (Ent.vw A xs).blk? = some g → w.heap.size ≤ g
section
variable {F : List Nat} {w0 w w' : World} {M : List Ent}
theorem NewV.apart {A : Option Addr} {xs : List Value} (hn : NewV w w' A xs) (h : St F w0 M w) : ∀ e' ∈ M, (Ent.vw A xs).apart e' := fun e' he' => by
  cases hb : (Ent.vw A xs).blk? with
  | none => exact .inr (.inl hb)
  | some g =>
    cases hb' : e'.blk? with
    | none => exact .inr (.inr (.inl hb'))
    | some g' =>
      refine .inr (.inr (.inr ?_))
      rw [hb, hb']
      have h1 := hn.2 g hb
      have h2 := Ent.ok_lt (h.ok e' he') hb'
      intro he; injection he; omega
theorem NewV.nil_ (w w' : World) (A : Option Addr) : NewV w w' A [] := ⟨View.nil_, fun g hg => by cases hg⟩
theorem New.view {A : Option Addr} {e : TypeId} {sz m c : Nat} {xs : List Value} (h : New w w' (.row (.slice A m c) e sz m xs)) : NewV w w' A xs :=
  ⟨rowView h.1, fun g hg => h.2.2 g (Ent.view_blk (e := .row (.slice A m c) e sz m xs) hg)⟩
theorem NewV.off {A0 A : Option Addr} {xs : List Value} {n p : Nat} (h : NewV w w' A0 xs) (hl : xs.length = n) (hA : Off A0 p n A) (k : Nat) : NewV w w' A ((xs.drop p).take k) :=
  ⟨off_view h.1 hl hA k, fun g hg => h.2 g (off_blk hl hA g hg)⟩
end
section
variable {P : Program} {a : Act} {w : World} {x y : Operand} {d : Option Tmp} {t t' ty : TypeId} {pos : String} {aft : Array Edge} {g : Option (Nat × Bool)} {k k' : IntKind} {n j mx : Nat}
end
/-! ### structs -/
section
variable {P : Program} {a : Act} {w : World} {x y : Operand} {d : Option Tmp} {t t' ty : TypeId} {pos : String} {aft : Array Edge} {g : Option (Nat × Bool)} {v u : Value}
def EqV (P : Program) (d : Nat) (t : TypeId) (x y : Value) (r : Bool) : Prop := ∀ w, (Op.equalIn d t x y).run P w = .ok r w
theorem x_Aeql {l m : List Value} {r : Bool} (hm : P.eqGuardType P.depth t = false) (hx : a.eval x = .agg l.toArray) (hy : a.eval y = .agg m.toArray) (he : EqV P 10000 t (.agg l.toArray) (.agg m.toArray) r) : (execOp a.eval ⟨d, .binOp .eql t x y t', ty, pos, aft, g⟩).run P w = .ok (.value (.bool r)) w :=
  x_eqv (.inl rfl) hx hy (fun w => run_eqGuard_agg w _ _ _ _ _ _ hm) fun w => by rw [run_eql_struct, he w]; rfl
end
end Go.Proofs.Ytilgolflpdpfnaa
