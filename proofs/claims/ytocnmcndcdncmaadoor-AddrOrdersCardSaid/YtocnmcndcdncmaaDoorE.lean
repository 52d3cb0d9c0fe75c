
/- An engine for walks: frames as functions, one lemma an operation, memory as one list of entries. Any program. -/
import Derived.Test.YtocnmcndcdncmaaDoorAppend
import Derived.Test.YtocnmcndcdncmaaDoorRegion
import Derived.IntWalk
import Derived.Deep.MidRow
namespace Go.Proofs.YtocnmcndcdncmaaDoor
open Go.RowKit

theorem nrm : (∀ (p : Prop) [Decidable p], (decide p = true) = p) ∧ (∀ (p : Prop) [Decidable p], (decide p = false) = ¬ p) ∧ (∀ b : Bool, ((!b) = true) = (b = false)) ∧ (∀ b : Bool, ((!b) = false) = (b = true)) ∧ (∀ a b : Int, (¬ a < b) = (b ≤ a)) ∧ (∀ a b : Int, (¬ a ≤ b) = (b < a)) ∧ (∀ a b : Nat, (¬ a < b) = (b ≤ a)) ∧ (∀ a b : Nat, (¬ a ≤ b) = (b < a)) ∧
    (∀ a b : Nat, ((a : Int) < (b : Int)) = (a < b)) ∧ (∀ a b : Nat, ((a : Int) ≤ (b : Int)) = (a ≤ b)) ∧ (∀ a b : Nat, ((a : Int) = (b : Int)) = (a = b)) ∧ (∀ a : Bool, (a == true) = a) :=
  ⟨fun p _ => decide_eq_true_eq, fun p _ => by simp, fun b => by simp, fun b => by simp, fun a b => by simp, fun a b => by simp, fun a b => by simp, fun a b => by simp, fun a b => by simp, fun a b => by simp, fun a b => by simp; omega, fun a => by simp⟩
/-! ### frames -/
def upd (f : Nat → Value) (d : Nat) (v : Value) : Nat → Value := fun t => cond (Nat.beq t d) v (f t)
def act (n : Nat) (f : Nat → Value) : Act := ⟨((List.range n).map f).toArray, []⟩
def mix (W : List Nat) (g f : Nat → Value) : Nat → Value := fun t => cond (W.elem t) (g t) (f t)
def argf (l : List Value) : Nat → Value := fun t => l.getD t undef

theorem act_get (n : Nat) (f : Nat → Value) (t : Nat) (h : t < n) : (act n f).tmps.getD t undef = f t := by
  unfold act
  simp [Array.getD, h]
theorem tm {n : Nat} {f : Nat → Value} {t : Nat} (h : Nat.blt t n = true) : (act n f).eval (.tmp t) = f t := by
  have : t < n := by simpa [Nat.blt_eq] using h
  exact act_get n f t this
theorem ev_c {a : Act} {v : Value} : a.eval (.const v) = v := rfl
theorem ev_cN {a : Act} {k : IntKind} (m : Nat) : a.eval (.const (.int k (m : Int))) = .int k (m : Int) := rfl
theorem act_put (n : Nat) (f : Nat → Value) (d : Nat) (v : Value) : (act n f).put (some d) v = act n (upd f d v) := by
  unfold act Act.put
  simp only [Act.mk.injEq, and_true]
  apply Array.ext
  · simp
  · intro i h1 h2
    simp at h1
    simp [Array.getElem_setIfInBounds, upd]
    by_cases h : d = i
    · subst h; simp [Nat.beq_refl]
    · have : Nat.beq i d = false := by
        cases hb : Nat.beq i d with
        | false => rfl
        | true => exact absurd (Nat.eq_of_beq_eq_true hb).symm h
      simp [h, this]
theorem act_enter (args : List Value) (m : Nat) : (⟨args.toArray ++ Array.replicate (m - args.toArray.size) undef, []⟩ : Act) = act (max m args.length) (argf args) := by
  unfold act
  simp only [Act.mk.injEq, and_true]
  apply Array.ext
  · simp; omega
  · intro i h1 h2
    simp at h1
    simp only [List.getElem_toArray, List.getElem_map, List.getElem_range, argf, List.getD_eq_getElem?_getD]
    by_cases h : i < args.length
    · rw [Array.getElem_append_left (by simpa using h), List.getElem?_eq_getElem h]; simp
    · rw [Array.getElem_append_right (by simpa using h), List.getElem?_eq_none (by omega)]; simp

theorem upd_self (f : Nat → Value) (d : Nat) (v : Value) (h : f d = v) : upd f d v = f := by
  funext t
  unfold upd
  cases hb : Nat.beq t d with
  | false => rfl
  | true => rw [Nat.eq_of_beq_eq_true hb, h]; rfl
/-- A slot's value, written out. -/
theorem fr_know {P : Program} {c : Code} {Q : Exit → Act → World → Prop} {n : Nat} {f : Nat → Value} {w : World} {d : Nat} {v : Value} (h : f d = v) (k : c.wp P Q (act n (upd f d v)) w) : c.wp P Q (act n f) w := by
  rw [upd_self f d v h] at k; exact k

/-- The frames agree but for these slots. -/
def Agree (W : List Nat) (f' f : Nat → Value) : Prop := ∀ t, W.elem t = false → f' t = f t
theorem agree_refl {W f} : Agree W f f := fun _ _ => rfl
theorem agree_self {W g f} : Agree W (mix W g f) f := fun t h => by unfold mix; rw [h]; rfl
theorem agree_upd {W f' f d v} (h : W.elem d = true) (k : Agree W f' f) : Agree W (upd f' d v) f := fun t ht => by
  unfold upd
  cases hb : Nat.beq t d with
  | false => exact k t ht
  | true => rw [Nat.eq_of_beq_eq_true hb, h] at ht; cases ht
theorem agree_mix {W V g f' f} (h : V.all (W.elem ·) = true) (k : Agree W f' f) : Agree W (mix V g f') f := fun t ht => by
  unfold mix
  cases hb : V.elem t with
  | false => exact k t ht
  | true =>
    have := List.all_eq_true.1 h t (List.mem_of_elem_eq_true hb)
    rw [this] at ht; cases ht
theorem agree_eq {W f' f} (h : Agree W f' f) : f' = mix W f' f := by
  funext t
  unfold mix
  cases hb : W.elem t with
  | false => exact h t hb
  | true => rfl

/-! ### entering, loops, ways -/
theorem ent {P : Program} {f : FuncId} {fn : Func} {c : Code} {args : List Value} {w : World} {R : Ending → World → Prop} {n : Nat} (hf : P.funcs[f]? = some fn) (hb : fn.body = some c) (hn : max fn.ntmps args.length = n)
    (h : c.wp P (bodyPost P fn R) (act n (argf args)) w) : Calls P f args.toArray w R := by
  refine calls_of_wp hf hb ?_
  rw [act_enter, hn]
  exact h

theorem least_of {p : Nat → Prop} : ∀ n, p n → ∃ m, p m ∧ m ≤ n ∧ ∀ k, p k → m ≤ k := by
  intro n
  induction n using Nat.strongRecOn with
  | _ n ih =>
    intro h
    by_cases hx : ∃ k, k < n ∧ p k
    · obtain ⟨k, hk, hp⟩ := hx
      obtain ⟨m, h1, h2, h3⟩ := ih k hk hp
      exact ⟨m, h1, by omega, h3⟩
    · refine ⟨n, h, Nat.le_refl _, fun k hk => ?_⟩
      rcases Nat.lt_or_ge k n with h1 | h1
      · exact absurd ⟨k, h1, hk⟩ hx
      · exact h1
open Classical in
noncomputable def leastN (p : Nat → Prop) : Nat := if h : ∃ m, p m ∧ ∀ k, p k → m ≤ k then h.choose else 0
theorem leastN_spec {p : Nat → Prop} {n : Nat} (h : p n) : p (leastN p) ∧ leastN p ≤ n := by
  obtain ⟨m, h1, _, h3⟩ := least_of n h
  have hx : ∃ m, p m ∧ ∀ k, p k → m ≤ k := ⟨m, h1, h3⟩
  unfold leastN
  rw [dif_pos hx]
  exact ⟨hx.choose_spec.1, hx.choose_spec.2 n h⟩

theorem lp {P : Program} {c : Code} {Q : Exit → Act → World → Prop} {n : Nat} {f : Nat → Value} {w : World} (W : List Nat) (I : Nat → (Nat → Value) → World → Prop) (h0 : ∃ m, I m f w)
    (round : ∀ m g w, I m (mix W g f) w → c.wp P (Exit.then (fun a' w' => ∃ m' f', a' = act n f' ∧ m' < m ∧ Agree W f' f ∧ I m' f' w') Q) (act n (mix W g f)) w) : (Code.loop c).wp P Q (act n f) w := by
  obtain ⟨m0, h0⟩ := h0
  have h0' : ∃ m g, act n f = act n (mix W g f) ∧ I m (mix W g f) w := ⟨m0, f, by rw [← agree_eq (W := W) (f' := f) agree_refl], by rw [← agree_eq (W := W) (f' := f) agree_refl]; exact h0⟩
  refine wp_loop (fun a w => ∃ m g, a = act n (mix W g f) ∧ I m (mix W g f) w) (fun a w => leastN fun m => ∃ g, a = act n (mix W g f) ∧ I m (mix W g f) w) h0' ?_
  rintro a w ⟨m, g, hm⟩
  obtain ⟨⟨g1, e1, h1⟩, _⟩ := leastN_spec (p := fun m => ∃ g, a = act n (mix W g f) ∧ I m (mix W g f) w) (n := m) ⟨g, hm⟩
  have hr := round _ g1 w h1
  rw [← e1] at hr
  refine wp_mono hr ?_
  intro e a' w' hq
  cases e with
  | normal =>
    obtain ⟨m', f', rfl, hlt, hag, hI⟩ := hq
    rw [agree_eq hag] at hI ⊢
    refine ⟨⟨m', f', rfl, hI⟩, ?_⟩
    have := (leastN_spec (p := fun m => ∃ g, act n (mix W f' f) = act n (mix W g f) ∧ I m (mix W g f) w') (n := m') ⟨f', rfl, hI⟩).2
    exact Nat.lt_of_le_of_lt this hlt
  | _ => exact hq

theorem then_n {next : Act → World → Prop} {Q : Exit → Act → World → Prop} {a : Act} {w : World} (h : next a w) : Exit.then next Q .normal a w := h
theorem then_x {next : Act → World → Prop} {Q : Exit → Act → World → Prop} {a : Act} {w : World} {id : Nat} (h : Q (.exit id) a w) : Exit.then next Q (.exit id) a w := h
theorem then_r {next : Act → World → Prop} {Q : Exit → Act → World → Prop} {a : Act} {w : World} (h : Q .ret a w) : Exit.then next Q .ret a w := h
theorem inb_n {id : Nat} {Q : Exit → Act → World → Prop} {a : Act} {w : World} (h : Q .normal a w) : Exit.inBlock id Q .normal a w := h
theorem inb_r {id : Nat} {Q : Exit → Act → World → Prop} {a : Act} {w : World} (h : Q .ret a w) : Exit.inBlock id Q .ret a w := h
theorem inb_x {id : Nat} {Q : Exit → Act → World → Prop} {a : Act} {w : World} (h : Q .normal a w) : Exit.inBlock id Q (.exit id) a w := by simp only [Exit.inBlock, if_true]; exact h
theorem inb_y {id id' : Nat} {Q : Exit → Act → World → Prop} {a : Act} {w : World} (hne : Nat.beq id' id = false) (h : Q (.exit id') a w) : Exit.inBlock id Q (.exit id') a w := by
  have : ¬ id' = id := fun e => by rw [e, Nat.beq_refl] at hne; cases hne
  simp only [Exit.inBlock, if_neg this]; exact h
theorem cnd {P : Program} {Q : Exit → Act → World → Prop} {a : Act} {w : World} {c : Operand} {x y : Code} {t : Bool} (hc : a.eval c = .bool t) (ht : t = true → x.wp P Q a w) (hf : t = false → y.wp P Q a w) : (Code.cond c x y).wp P Q a w :=
  wp_cond_split hc ht hf

theorem cnds {P : Program} {Q : Exit → Act → World → Prop} {a : Act} {w : World} {c : Operand} {x y : Code} {t : Bool} (hc : a.eval c = .bool t) (hf : t = false → y.wp P Q a w) (ht : t = true → x.wp P Q a w) : (Code.cond c x y).wp P Q a w :=
  wp_cond_split hc ht hf
theorem cnd_t {P : Program} {Q : Exit → Act → World → Prop} {a : Act} {w : World} {c : Operand} {x y : Code} {t : Bool} (hc : a.eval c = .bool t) (ht : t = true) (h : x.wp P Q a w) : (Code.cond c x y).wp P Q a w := by subst ht; exact wp_cond_true hc h
theorem cnd_f {P : Program} {Q : Exit → Act → World → Prop} {a : Act} {w : World} {c : Operand} {x y : Code} {t : Bool} (hc : a.eval c = .bool t) (ht : t = false) (h : y.wp P Q a w) : (Code.cond c x y).wp P Q a w := by subst ht; exact wp_cond_false hc h
/-! ### values -/
section
variable {P : Program} {a : Act} {w : World} {x y : Operand} {d : Option Tmp} {t t' ty : TypeId} {pos : String} {aft : Array Edge} {g : Option (Nat × Bool)} {k : IntKind} {m n r : Int} {i j : Nat} {v u : Value}

theorem x_move (hx : a.eval x = v) : (execOp a.eval ⟨d, .move x, ty, pos, aft, g⟩).run P w = .ok (.value v) w := by subst hx; rfl
theorem x_assign (hx : a.eval x = v) : (execOp a.eval ⟨d, .assign x, ty, pos, aft, g⟩).run P w = .ok (.value v) w := by subst hx; rfl
theorem x_pick {c : Operand} {b : Bool} (hc : a.eval c = .bool b) (hx : a.eval x = v) (hy : a.eval y = u) : (execOp a.eval ⟨d, .pick c x y, ty, pos, aft, g⟩).run P w = .ok (.value (if b then v else u)) w := by
  subst hx; subst hy; unfold execOp; simp only [hc, asBool, Sem.run_bind, Sem.run_pure, Result.andThen_ok]
theorem x_bin {op : BinOp} (hop : (op matches .eql | .neq) = false) (hs : (op matches .shl | .shr) = false) (hx : a.eval x = .int k m) (hy : a.eval y = .int k n) (hv : ∀ w, (match op with
    | .add | .sub | .mul => Op.intArith op k m n
    | .quo | .rem => Op.intDiv op k m n
    | .and | .or | .xor | .andNot => Op.intBits op k m n
    | _ => Op.intCmp op m n : Sem Value).run P w = .ok v w) : (execOp a.eval ⟨d, .binOp op t x y t', ty, pos, aft, g⟩).run P w = .ok (.value v) w := by
  have h := hv w
  unfold execOp
  cases op <;> simp_all [eqGuard, binOp, Sem.run_bind, Sem.run_pure, Result.andThen_ok]
theorem x_add (hx : a.eval x = .int k m) (hy : a.eval y = .int k n) : (execOp a.eval ⟨d, .binOp .add t x y t', ty, pos, aft, g⟩).run P w = .ok (.value (.int k (k.wrap (m + n)))) w := x_bin rfl rfl hx hy fun _ => rfl
theorem x_sub (hx : a.eval x = .int k m) (hy : a.eval y = .int k n) : (execOp a.eval ⟨d, .binOp .sub t x y t', ty, pos, aft, g⟩).run P w = .ok (.value (.int k (k.wrap (m - n)))) w := x_bin rfl rfl hx hy fun _ => rfl
theorem x_mul (hx : a.eval x = .int k m) (hy : a.eval y = .int k n) : (execOp a.eval ⟨d, .binOp .mul t x y t', ty, pos, aft, g⟩).run P w = .ok (.value (.int k (k.wrap (m * n)))) w := x_bin rfl rfl hx hy fun _ => rfl
theorem x_lss (hx : a.eval x = .int k m) (hy : a.eval y = .int k n) : (execOp a.eval ⟨d, .binOp .lss t x y t', ty, pos, aft, g⟩).run P w = .ok (.value (.bool (decide (m < n)))) w := x_bin rfl rfl hx hy fun _ => rfl
theorem x_leq (hx : a.eval x = .int k m) (hy : a.eval y = .int k n) : (execOp a.eval ⟨d, .binOp .leq t x y t', ty, pos, aft, g⟩).run P w = .ok (.value (.bool (decide (m ≤ n)))) w := x_bin rfl rfl hx hy fun _ => rfl
theorem x_gtr (hx : a.eval x = .int k m) (hy : a.eval y = .int k n) : (execOp a.eval ⟨d, .binOp .gtr t x y t', ty, pos, aft, g⟩).run P w = .ok (.value (.bool (decide (n < m)))) w := x_bin rfl rfl hx hy fun _ => rfl
theorem x_geq (hx : a.eval x = .int k m) (hy : a.eval y = .int k n) : (execOp a.eval ⟨d, .binOp .geq t x y t', ty, pos, aft, g⟩).run P w = .ok (.value (.bool (decide (n ≤ m)))) w := x_bin rfl rfl hx hy fun _ => rfl
theorem x_eql (hx : a.eval x = .int k m) (hy : a.eval y = .int k n) : (execOp a.eval ⟨d, .binOp .eql t x y t', ty, pos, aft, g⟩).run P w = .ok (.value (.bool (decide (m = n)))) w := by
  unfold execOp
  simp only [hx, hy, eqGuard, binOp, Op.intCmp, Sem.run_bind, Sem.run_pure, Result.andThen_ok]
  simp [Op.intCmp]
  rfl
theorem x_neq (hx : a.eval x = .int k m) (hy : a.eval y = .int k n) : (execOp a.eval ⟨d, .binOp .neq t x y t', ty, pos, aft, g⟩).run P w = .ok (.value (.bool (!decide (m = n)))) w := by
  unfold execOp
  simp only [hx, hy, eqGuard, binOp, Op.intCmp, Sem.run_bind, Sem.run_pure, Result.andThen_ok]
  simp [Op.intCmp]
  rfl
end
end Go.Proofs.YtocnmcndcdncmaaDoor
