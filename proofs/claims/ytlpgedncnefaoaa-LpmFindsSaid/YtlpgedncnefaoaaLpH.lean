
/- lpm: trees of nodes as entries, and what Set and Find make of them. Any program. -/
import Derived.Test.YtlpgedncnefaoaaLpF
import Derived.ChangeKeysEq
namespace Go.Proofs.Ytlpgedncnefaoaa
open Go.RowKit
theorem St.perm {F : List Nat} {w0 w : World} {M M' : List Ent} (h : St F w0 M w) (hp : M.Perm M') : St F w0 M' w := by
  refine ⟨h.kp, fun e he => h.ok e (hp.mem_iff.2 he), ?_, fun e he => h.own e (hp.mem_iff.2 he)⟩
  have h1 : M.Pairwise Ent.apart := by
    rw [List.pairwise_iff_getElem]
    intro i j hi hj hij
    exact h.ap i j _ _ (by omega) (List.getElem?_eq_getElem hi) (List.getElem?_eq_getElem hj)
  have h2 : M'.Pairwise Ent.apart := (hp.pairwise_iff Ent.apart_symm).1 h1
  rw [List.pairwise_iff_getElem] at h2
  intro i j a b hij ha hb
  obtain ⟨hi, rfl⟩ := List.getElem?_eq_some_iff.1 ha
  obtain ⟨hj, rfl⟩ := List.getElem?_eq_some_iff.1 hb
  rcases Nat.lt_or_ge i j with hlt | hge
  · exact h2 i j hi hj hlt
  · exact Ent.apart_symm (h2 j i hj hi (by omega))
section
variable {P : Program} {a : Act} {w : World} {x y : Operand} {d : Option Tmp} {t t' ty : TypeId} {pos : String} {aft : Array Edge} {g : Option (Nat × Bool)}
theorem eqp_o {e : TypeId} {A : Option Addr} (hu : P.underlying t = some (.pointer e)) (d : Nat) (w : World) : (Op.equalIn (d + 1) t (.pointer A) (.pointer none)).run P w = .ok A.isNone w := by
  cases A with
  | none => exact eqp_none hu d w
  | some A => exact eqp_some hu d w
theorem eqv_pp {e e' : TypeId} {A B : Option Addr} {d : Nat} (hu : P.underlying t = some (.array 2 e)) (hue : P.underlying e = some (.pointer e')) (hc : P.cellsOf e = 1) (hi : (P.info? e).isSome = true) : EqV P (d + 2) t (.agg [Value.pointer A, .pointer B].toArray) (.agg [Value.pointer none, .pointer none].toArray) (A.isNone && B.isNone) := fun w => by
  obtain ⟨i, hi⟩ : ∃ i, P.info? e = some i := Option.isSome_iff_exists.1 hi
  rw [run_equalIn_array (P := P) (w := w) (d + 1) _ _ hu hi, hc]
  show (Op.eqItems (d + 1) e 1 _ _ [0, 1]).run P w = _
  have p0 := pt_1 (P := P) (t := e) (l := [Value.pointer A, .pointer B]) (off := 0 * 1) (v := .pointer A) hue rfl rfl w
  have p1 := pt_1 (P := P) (t := e) (l := [Value.pointer A, .pointer B]) (off := 1 * 1) (v := .pointer B) hue rfl rfl w
  have q0 := pt_1 (P := P) (t := e) (l := [Value.pointer none, .pointer none]) (off := 0 * 1) (v := .pointer none) hue rfl rfl w
  have q1 := pt_1 (P := P) (t := e) (l := [Value.pointer none, .pointer none]) (off := 1 * 1) (v := .pointer none) hue rfl rfl w
  have h0 := eqp_o (P := P) (t := e) (A := A) hue d w
  have h1 := eqp_o (P := P) (t := e) (A := B) hue d w
  rw [Op.eqItems]
  simp only [Sem.run_bind, p0, q0, h0, Result.andThen_ok]
  cases A.isNone
  · rfl
  · rw [Bool.true_and]
    show (Op.eqItems (d + 1) e 1 [Value.pointer A, .pointer B].toArray [Value.pointer none, .pointer none].toArray [1]).run P w = _
    rw [Op.eqItems]
    simp only [Sem.run_bind, p1, q1, h1, Result.andThen_ok]
    cases B.isNone
    · rfl
    · show (Op.eqItems (d + 1) e 1 [Value.pointer A, .pointer B].toArray [Value.pointer none, .pointer none].toArray []).run P w = _
      rw [Op.eqItems]
      rfl
theorem x_pneqo {e : TypeId} {A : Option Addr} (hu : P.underlying t = some (.pointer e)) (hx : a.eval x = .pointer A) (hy : a.eval y = .pointer none) : (execOp a.eval ⟨d, .binOp .neq t x y t', ty, pos, aft, g⟩).run P w = .ok (.value (.bool A.isSome)) w := by
  cases A with
  | none => exact x_pneqn hu hx hy
  | some A => exact x_pneq hu hx hy
theorem x_peqo {e : TypeId} {A : Option Addr} (hu : P.underlying t = some (.pointer e)) (hx : a.eval x = .pointer A) (hy : a.eval y = .pointer none) : (execOp a.eval ⟨d, .binOp .eql t x y t', ty, pos, aft, g⟩).run P w = .ok (.value (.bool A.isNone)) w := by
  cases A with
  | none => exact x_peqln hu hx hy
  | some A => exact x_peql hu hx hy
end
inductive TT where
  | nil
  | nd (g : Nat) (l r : TT) (s : Bool) (v : Int)
inductive Sh where
  | nil
  | nd (l r : Sh) (s : Bool) (v : Int)
deriving DecidableEq
def TT.p : TT → Option Addr
  | .nil => none
  | .nd g _ _ _ _ => some ⟨g, 0, none⟩
def TT.sh : TT → Sh
  | .nil => .nil
  | .nd _ l r s v => .nd l.sh r.sh s v
def ndV (l r : TT) (s : Bool) (v : Int) : List Value := [.pointer l.p, .pointer r.p, .bool s, .int .i64 v]
def TT.es : TT → List Ent
  | .nil => []
  | .nd g l r s v => .blk g 59 (ndV l r s v) :: (l.es ++ r.es)
def tabV (six : Bool) (x o : TT) (c : Int) : List Value := [.pointer (cond six o.p x.p), .pointer (cond six x.p o.p), .int .i64 c]
def ftab (tb : Nat) (six : Bool) (x o : TT) (c : Int) (Z : List Ent) : List Ent := .blk tb 47 (tabV six x o c) :: (x.es ++ (o.es ++ Z))
theorem ftab_swap (tb : Nat) (six : Bool) (x o : TT) (c : Int) (Z : List Ent) : (ftab tb six x o c Z).Perm (ftab tb (!six) o x c Z) := by
  unfold ftab tabV
  have h : (x.es ++ (o.es ++ Z)).Perm (o.es ++ (x.es ++ Z)) := by
    rw [← List.append_assoc, ← List.append_assoc]
    exact List.Perm.append_right _ List.perm_append_comm
  cases six <;> exact List.Perm.cons _ h
theorem ftab_in {tb : Nat} {six : Bool} {x o : TT} {c : Int} {Z : List Ent} {A : Ent} : (A :: ftab tb six x o c Z).Perm (ftab tb six x o c (A :: Z)) := by
  unfold ftab
  refine (List.Perm.swap _ _ _).trans (List.Perm.cons _ ?_)
  rw [← List.append_assoc, ← List.append_assoc]
  exact List.perm_middle.symm
/-- Where a bit leads. -/
def Sh.kid : Sh → Nat → Sh
  | .nil, _ => .nil
  | .nd l r _ _, b => if b = 0 then l else r
def TT.kid : TT → Nat → TT
  | .nil, _ => .nil
  | .nd _ l r _ _, b => if b = 0 then l else r
theorem TT.kid_sh (t : TT) (b : Nat) : (t.kid b).sh = t.sh.kid b := by
  cases t with
  | nil => rfl
  | nd g l r s v => by_cases h : b = 0 <;> simp [TT.kid, Sh.kid, TT.sh, h]
/-- A shape with value v at the end of m bits, from the k-th. -/
def setS (f : Nat → Nat) (v : Int) : Nat → Nat → Sh → Sh
  | 0, _, .nil => .nd .nil .nil true v
  | 0, _, .nd l r _ _ => .nd l r true v
  | m + 1, k, .nil => if f k = 0 then .nd (setS f v m (k + 1) .nil) .nil false 0 else .nd .nil (setS f v m (k + 1) .nil) false 0
  | m + 1, k, .nd l r s x => if f k = 0 then .nd (setS f v m (k + 1) l) r s x else .nd l (setS f v m (k + 1) r) s x
def Sh.isS : Sh → Bool
  | .nil => false
  | .nd _ _ s _ => s
def Sh.val : Sh → Int
  | .nil => 0
  | .nd _ _ _ v => v
/-- The shape at the end of m bits. -/
def atS (f : Nat → Nat) : Nat → Nat → Sh → Sh
  | 0, _, t => t
  | m + 1, k, t => atS f m (k + 1) (t.kid (f k))
/-- The node as it is when it has been grown. -/
def Sh.grow : Sh → Sh
  | .nil => .nd .nil .nil false 0
  | t => t
theorem setS_grow (f : Nat → Nat) (v : Int) (m k : Nat) (t : Sh) : setS f v m k t.grow = setS f v m k t := by
  cases t with
  | nil => cases m <;> simp [Sh.grow, setS]
  | nd l r s x => rfl
theorem atS_grow (f : Nat → Nat) (m k : Nat) (t : Sh) : (atS f m k t.grow).isS = (atS f m k t).isS := by
  cases t with
  | nil =>
    cases m with
    | zero => rfl
    | succ m =>
      show (atS f m (k + 1) (Sh.kid (.nd .nil .nil false 0) (f k))).isS = _
      have : Sh.kid (.nd .nil .nil false 0) (f k) = Sh.nil := by by_cases h : f k = 0 <;> simp [Sh.kid, h]
      rw [this]
      rfl
  | nd l r s x => rfl
/-- The best of what lies on the way: the number of bits and the value. -/
def findS (f : Nat → Nat) : Nat → Nat → Sh → Option (Nat × Int) → Option (Nat × Int)
  | _, _, .nil, b => b
  | 0, k, .nd _ _ s v, b => if s then some (k, v) else b
  | m + 1, k, .nd l r s v, b => findS f m (k + 1) (if f k = 0 then l else r) (if s then some (k, v) else b)
/-- One bit of an address. -/
def pbit (a : Ad) (i : Nat) : Nat := if a.six then (if i < 64 then a.high / 2 ^ (63 - i) % 2 else a.low / 2 ^ (127 - i) % 2) else a.low / 2 ^ (31 - i) % 2
theorem pbit_lt (a : Ad) (i : Nat) : pbit a i < 2 := by unfold pbit; split; split <;> omega; omega
end Go.Proofs.Ytlpgedncnefaoaa
