/- An engine for walks: frames as functions, one lemma an operation, memory as one list of entries. Any program. -/
import Derived.Test.YtilgolflpdpfnaaAppend
import Derived.Test.YtilgolflpdpfnaaRegion
import Derived.IntWalk
import Derived.Deep.MidRow
namespace Go.Proofs.Ytilgolflpdpfnaa
open Go.RowKit

theorem nrm : (∀ (p : Prop) [Decidable p], (decide p = true) = p) ∧ (∀ (p : Prop) [Decidable p], (decide p = false) = ¬ p) ∧ (∀ b : Bool, ((!b) = true) = (b = false)) ∧ (∀ b : Bool, ((!b) = false) = (b = true)) ∧ (∀ a b : Int, (¬ a < b) = (b ≤ a)) ∧ (∀ a b : Int, (¬ a ≤ b) = (b < a)) ∧ (∀ a b : Nat, (¬ a < b) = (b ≤ a)) ∧ (∀ a b : Nat, (¬ a ≤ b) = (b < a)) ∧
    (∀ a b : Nat, ((a : Int) < (b : Int)) = (a < b)) ∧ (∀ a b : Nat, ((a : Int) ≤ (b : Int)) = (a ≤ b)) ∧ (∀ a b : Nat, ((a : Int) = (b : Int)) = (a = b)) ∧ (∀ a : Bool, (a == true) = a) :=
  ⟨fun p _ => decide_eq_true_eq, fun p _ => by simp, fun b => by simp, fun b => by simp, fun a b => by simp, fun a b => by simp, fun a b => by simp, fun a b => by simp, fun a b => by simp, fun a b => by simp, fun a b => by simp; omega, fun a => by simp⟩
/-! ### frames -/
def upd (f : Nat → Value) (d : Nat) (v : Value) : Nat → Value := fun t => cond (Nat.beq t d) v (f t)
def act (n : Nat) (f : Nat → Value) : Act := ⟨((List.range n).map f).toArray, []⟩
def argf (l : List Value) : Nat → Value := fun t => l.getD t undef

theorem act_get (n : Nat) (f : Nat → Value) (t : Nat) (h : t < n) : (act n f).tmps.getD t undef = f t := by
  unfold act
  simp [Array.getD, h]
theorem tm {n : Nat} {f : Nat → Value} {t : Nat} (h : Nat.blt t n = true) : (act n f).eval (.tmp t) = f t := by
  have : t < n := by simpa [Nat.blt_eq] using h
  exact act_get n f t this
theorem ev_c {a : Act} {v : Value} : a.eval (.const v) = v := rfl
theorem ev_cN {a : Act} {k : IntKind} (m : Nat) : a.eval (.const (.int k (m : Int))) = .int k (m : Int) := rfl
theorem act_put (n : Nat) (f : Nat → Value) (d : Nat) (v : Value) : (act n f).put (some d) v = act n (upd f d v) := by
  unfold act Act.put
  simp only [Act.mk.injEq, and_true]
  apply Array.ext
  · simp
  · intro i h1 h2
    simp at h1
    simp [Array.getElem_setIfInBounds, upd]
    by_cases h : d = i
    · subst h; simp [Nat.beq_refl]
    · have : Nat.beq i d = false := by
        cases hb : Nat.beq i d with
        | false => rfl
        | true => exact absurd (Nat.eq_of_beq_eq_true hb).symm h
      simp [h, this]
theorem act_enter (args : List Value) (m : Nat) : (⟨args.toArray ++ Array.replicate (m - args.toArray.size) undef, []⟩ : Act) = act (max m args.length) (argf args) := by
  unfold act
  simp only [Act.mk.injEq, and_true]
  apply Array.ext
  · simp; omega
  · intro i h1 h2
    simp at h1
    simp only [List.getElem_toArray, List.getElem_map, List.getElem_range, argf, List.getD_eq_getElem?_getD]
    by_cases h : i < args.length
    · rw [Array.getElem_append_left (by simpa using h), List.getElem?_eq_getElem h]; simp
    · rw [Array.getElem_append_right (by simpa using h), List.getElem?_eq_none (by omega)]; simp

/-! ### entering, loops, ways -/
theorem ent {P : Program} {f : FuncId} {fn : Func} {c : Code} {args : List Value} {w : World} {R : Ending → World → Prop} {n : Nat} (hf : P.funcs[f]? = some fn) (hb : fn.body = some c) (hn : max fn.ntmps args.length = n)
    (h : c.wp P (bodyPost P fn R) (act n (argf args)) w) : Calls P f args.toArray w R := by
  refine calls_of_wp hf hb ?_
  rw [act_enter, hn]
  exact h

theorem then_n {next : Act → World → Prop} {Q : Exit → Act → World → Prop} {a : Act} {w : World} (h : next a w) : Exit.then next Q .normal a w := h
theorem then_r {next : Act → World → Prop} {Q : Exit → Act → World → Prop} {a : Act} {w : World} (h : Q .ret a w) : Exit.then next Q .ret a w := h
theorem cnd {P : Program} {Q : Exit → Act → World → Prop} {a : Act} {w : World} {c : Operand} {x y : Code} {t : Bool} (hc : a.eval c = .bool t) (ht : t = true → x.wp P Q a w) (hf : t = false → y.wp P Q a w) : (Code.cond c x y).wp P Q a w :=
  wp_cond_split hc ht hf

theorem cnd_f {P : Program} {Q : Exit → Act → World → Prop} {a : Act} {w : World} {c : Operand} {x y : Code} {t : Bool} (hc : a.eval c = .bool t) (ht : t = false) (h : y.wp P Q a w) : (Code.cond c x y).wp P Q a w := by subst ht; exact wp_cond_false hc h
/-! ### values -/
section
variable {P : Program} {a : Act} {w : World} {x y : Operand} {d : Option Tmp} {t t' ty : TypeId} {pos : String} {aft : Array Edge} {g : Option (Nat × Bool)} {k : IntKind} {m n r : Int} {i j : Nat} {v u : Value}

theorem x_move (hx : a.eval x = v) : (execOp a.eval ⟨d, .move x, ty, pos, aft, g⟩).run P w = .ok (.value v) w := by subst hx; rfl
theorem x_assign (hx : a.eval x = v) : (execOp a.eval ⟨d, .assign x, ty, pos, aft, g⟩).run P w = .ok (.value v) w := by subst hx; rfl
theorem x_pick {c : Operand} {b : Bool} (hc : a.eval c = .bool b) (hx : a.eval x = v) (hy : a.eval y = u) : (execOp a.eval ⟨d, .pick c x y, ty, pos, aft, g⟩).run P w = .ok (.value (if b then v else u)) w := by
  subst hx; subst hy; unfold execOp; simp only [hc, asBool, Sem.run_bind, Sem.run_pure, Result.andThen_ok]
theorem x_bin {op : BinOp} (hop : (op matches .eql | .neq) = false) (hs : (op matches .shl | .shr) = false) (hx : a.eval x = .int k m) (hy : a.eval y = .int k n) (hv : ∀ w, (match op with
    | .add | .sub | .mul => Op.intArith op k m n
    | .quo | .rem => Op.intDiv op k m n
    | .and | .or | .xor | .andNot => Op.intBits op k m n
    | _ => Op.intCmp op m n : Sem Value).run P w = .ok v w) : (execOp a.eval ⟨d, .binOp op t x y t', ty, pos, aft, g⟩).run P w = .ok (.value v) w := by
  have h := hv w
  unfold execOp
  cases op <;> simp_all [eqGuard, binOp, Sem.run_bind, Sem.run_pure, Result.andThen_ok]
theorem x_add (hx : a.eval x = .int k m) (hy : a.eval y = .int k n) : (execOp a.eval ⟨d, .binOp .add t x y t', ty, pos, aft, g⟩).run P w = .ok (.value (.int k (k.wrap (m + n)))) w := x_bin rfl rfl hx hy fun _ => rfl
theorem x_sub (hx : a.eval x = .int k m) (hy : a.eval y = .int k n) : (execOp a.eval ⟨d, .binOp .sub t x y t', ty, pos, aft, g⟩).run P w = .ok (.value (.int k (k.wrap (m - n)))) w := x_bin rfl rfl hx hy fun _ => rfl
theorem x_eql (hx : a.eval x = .int k m) (hy : a.eval y = .int k n) : (execOp a.eval ⟨d, .binOp .eql t x y t', ty, pos, aft, g⟩).run P w = .ok (.value (.bool (decide (m = n)))) w := by
  unfold execOp
  simp only [hx, hy, eqGuard, binOp, Op.intCmp, Sem.run_bind, Sem.run_pure, Result.andThen_ok]
  simp [Op.intCmp]
  rfl
theorem x_neq (hx : a.eval x = .int k m) (hy : a.eval y = .int k n) : (execOp a.eval ⟨d, .binOp .neq t x y t', ty, pos, aft, g⟩).run P w = .ok (.value (.bool (!decide (m = n)))) w := by
  unfold execOp
  simp only [hx, hy, eqGuard, binOp, Op.intCmp, Sem.run_bind, Sem.run_pure, Result.andThen_ok]
  simp [Op.intCmp]
  rfl
end
end Go.Proofs.Ytilgolflpdpfnaa
