/- The engine's second part: numbers that are natural, addresses, lengths, loads. Any program. -/
import Derived.Test.YtilgolflpdpfnaaE
namespace Go.Proofs.Ytilgolflpdpfnaa
open Go.RowKit

/-! ### ranges of kinds -/
def fitsN (k : IntKind) (m : Nat) : Prop := k.wrap (m : Int) = (m : Int)
theorem fit_i64 {m : Nat} (h : m ≤ 9223372036854775807) : fitsN .i64 m := IntWalk.i64_in _ (by omega)
theorem fit_u64 {m : Nat} (h : m ≤ 18446744073709551615) : fitsN .u64 m := IntWalk.u64_in _ (by omega)
/-- How many numbers a kind holds that are not below 0. -/
def IntKind.cap (k : IntKind) : Nat := if k.signed then 2 ^ (k.bits - 1) else 2 ^ k.bits
theorem fits_iff (k : IntKind) (m : Nat) : fitsN k m ↔ m < IntKind.cap k := by
  unfold fitsN IntKind.cap
  cases k <;> simp [IntKind.wrap, IntKind.signed, IntKind.bits] <;> (try split) <;> omega
theorem fits_le {k : IntKind} {m m' : Nat} (h : fitsN k m) (hm : m' ≤ m) : fitsN k m' := by
  rw [fits_iff] at *; omega
theorem cap_le (k : IntKind) : IntKind.cap k ≤ 2 ^ k.bits := by cases k <;> decide
theorem wrap_u {k : IntKind} (hk : k.signed = false) (z : Int) : k.wrap z = z % (2 ^ k.bits : Int) := by
  unfold IntKind.wrap
  rw [hk]
  simp
theorem wrap_uN {k : IntKind} (hk : k.signed = false) (m : Nat) : k.wrap (m : Int) = ((m % 2 ^ k.bits : Nat) : Int) := by
  rw [wrap_u hk]
  push_cast
  rfl

section
variable {P : Program} {a : Act} {w : World} {x y : Operand} {d : Option Tmp} {t t' ty : TypeId} {pos : String} {aft : Array Edge} {g : Option (Nat × Bool)} {k k' : IntKind} {z z' r : Int} {m n i j : Nat} {v u : Value}

theorem x_subI (hx : a.eval x = .int k z) (hy : a.eval y = .int k z') (hr : k.wrap (z - z') = z - z') : (execOp a.eval ⟨d, .binOp .sub t x y t', ty, pos, aft, g⟩).run P w = .ok (.value (.int k (z - z'))) w := by have := x_sub (P := P) (w := w) (d := d) (t := t) (t' := t') (ty := ty) (pos := pos) (aft := aft) (g := g) hx hy; rwa [hr] at this
theorem x_addU (hx : a.eval x = .int k (m : Int)) (hy : a.eval y = .int k (n : Int)) (hk : k.signed = false) : (execOp a.eval ⟨d, .binOp .add t x y t', ty, pos, aft, g⟩).run P w = .ok (.value (.int k (((m + n) % 2 ^ k.bits : Nat) : Int))) w := by
  have := x_add (P := P) (w := w) (d := d) (t := t) (t' := t') (ty := ty) (pos := pos) (aft := aft) (g := g) hx hy
  rwa [← Int.natCast_add, wrap_uN hk] at this
theorem x_subN (hx : a.eval x = .int k (m : Int)) (hy : a.eval y = .int k (n : Int)) (hm : fitsN k m) (hr : n ≤ m) : (execOp a.eval ⟨d, .binOp .sub t x y t', ty, pos, aft, g⟩).run P w = .ok (.value (.int k ((m - n : Nat) : Int))) w := by
  have e : (m : Int) - (n : Int) = ((m - n : Nat) : Int) := by omega
  have := x_subI (P := P) (w := w) (d := d) (t := t) (t' := t') (ty := ty) (pos := pos) (aft := aft) (g := g) hx hy (by rw [e]; exact fits_le hm (by omega))
  rwa [e] at this
theorem x_subU (hx : a.eval x = .int k (m : Int)) (hy : a.eval y = .int k (n : Int)) (hk : k.signed = false) (hn : fitsN k n) : (execOp a.eval ⟨d, .binOp .sub t x y t', ty, pos, aft, g⟩).run P w = .ok (.value (.int k (((m + (2 ^ k.bits - n)) % 2 ^ k.bits : Nat) : Int))) w := by
  have h := x_sub (P := P) (w := w) (d := d) (t := t) (t' := t') (ty := ty) (pos := pos) (aft := aft) (g := g) hx hy
  have hn' := (fits_iff k n).1 hn
  have hc := cap_le k
  have e : k.wrap ((m : Int) - (n : Int)) = (((m + (2 ^ k.bits - n)) % 2 ^ k.bits : Nat) : Int) := by
    rw [wrap_u hk, Int.natCast_emod, Int.natCast_add, Int.natCast_sub (by omega)]
    rw [show ((m : Int) + (((2 ^ k.bits : Nat) : Int) - n)) = ((m : Int) - n) + ((2 ^ k.bits : Nat) : Int) by omega, Int.add_emod_right]
    push_cast
    rfl
  rwa [e] at h
theorem x_rem (hx : a.eval x = .int k z) (hy : a.eval y = .int k z') (h0 : z' ≠ 0) : (execOp a.eval ⟨d, .binOp .rem t x y t', ty, pos, aft, g⟩).run P w = .ok (.value (.int k (z.tmod z'))) w :=
  x_bin rfl rfl hx hy fun _ => by simp [Op.intDiv, h0]
theorem x_remN (hx : a.eval x = .int k (m : Int)) (hy : a.eval y = .int k (n : Int)) (h0 : 0 < n) : (execOp a.eval ⟨d, .binOp .rem t x y t', ty, pos, aft, g⟩).run P w = .ok (.value (.int k ((m % n : Nat) : Int))) w := by
  have := x_rem (P := P) (w := w) (d := d) (t := t) (t' := t') (ty := ty) (pos := pos) (aft := aft) (g := g) hx hy (by omega)
  rwa [Int.tmod_eq_emod_of_nonneg (by omega), ← Int.natCast_emod] at this
theorem x_not {b : Bool} (hx : a.eval x = .bool b) : (execOp a.eval ⟨d, .unOp .not t x, ty, pos, aft, g⟩).run P w = .ok (.value (.bool !b)) w := by
  unfold execOp; simp only [hx, Op.unary, Sem.run_bind, Sem.run_pure, Result.andThen_ok]
theorem x_conv {src dst : TypeId} {ds : TypeDesc} (hs : P.underlying src = some ds) (hd : P.underlying dst = some (.int k)) (hx : a.eval x = .int k' z) : (execOp a.eval ⟨d, .convert src dst x, ty, pos, aft, g⟩).run P w = .ok (.value (.int k (k.wrap z))) w := by
  unfold execOp
  simp only [hx, convert, Sem.run_bind, Sem.run_pure, Result.andThen_ok, run_underlying hs, run_underlying hd]
  rfl
theorem x_convN {src dst : TypeId} {ds : TypeDesc} (hs : P.underlying src = some ds) (hd : P.underlying dst = some (.int k)) (hx : a.eval x = .int k' (m : Int)) (hr : fitsN k m) : (execOp a.eval ⟨d, .convert src dst x, ty, pos, aft, g⟩).run P w = .ok (.value (.int k (m : Int))) w := by
  have := x_conv (w := w) (d := d) (ty := ty) (pos := pos) (aft := aft) (g := g) hs hd hx
  rwa [show k.wrap (m : Int) = (m : Int) from hr] at this
/-! ### addresses -/
theorem add_mk (b o n : Nat) : (⟨b, o, none⟩ : Addr).add n = ⟨b, o + n, none⟩ := by
  unfold Addr.add
  split
  · next h => subst h; rfl
  · rfl
theorem x_fa {s : TypeId} {fs : Array Field} {f : Nat} {fd : Field} {sz : Nat} {b o : Nat} (off : Nat) (hs : P.underlying s = some (.struct fs)) (hf : fs[f]? = some fd) (ho : fd.offset = off) (hz : (P.info? fd.type).map (·.size) = some (sz + 1)) (hx : a.eval x = .pointer (some ⟨b, o, none⟩)) :
    (execOp a.eval ⟨d, .fieldAddr s x f, ty, pos, aft, g⟩).run P w = .ok (.value (.pointer (some ⟨b, o + off, none⟩))) w := by
  subst ho
  obtain ⟨ti, hi, hti⟩ : ∃ ti, P.info? fd.type = some ti ∧ ti.size = sz + 1 := by
    cases h : P.info? fd.type with
    | none => rw [h] at hz; cases hz
    | some ti => rw [h] at hz; exact ⟨ti, rfl, by simpa using hz⟩
  unfold execOp
  simp only [hx, Instr.fieldAt, Instr.sureAddr, Sem.run_bind, Sem.run_pure, Result.andThen_ok, run_underlying hs, hf, fieldPlace, sizeOf, typeInfo]
  simp [hi, hti, add_mk]
theorem x_extract {vs : Array Value} {ix : Nat} (hx : a.eval x = .tuple vs) (hv : vs[ix]? = some v) : (execOp a.eval ⟨d, .extract x ix, ty, pos, aft, g⟩).run P w = .ok (.value v) w := by
  unfold execOp; simp only [hx, Instr.extract, hv, Sem.run_bind, Sem.run_pure, Result.andThen_ok]
/-! ### loads -/
theorem x_load {ty' : TypeId} {ds : TypeDesc} {b o : Nat} (hu : P.underlying ty' = some ds) (hd : ds.isRow = false) (hx : a.eval x = .pointer (some ⟨b, o, none⟩)) (hc : w.cell? ⟨b, o, none⟩ = some v) :
    (execOp a.eval ⟨d, .load ty' x, ty, pos, aft, g⟩).run P w = .ok (.value v) w := by
  unfold execOp
  simp only [hx, Instr.loadAt, Instr.sureAddr, Sem.run_bind, Sem.run_pure, Result.andThen_ok, loadVar, isAgg, run_underlying hu]
  have hr : (load ⟨b, o, none⟩).run P w = .ok v w := by simp [load, Sem.run, hc]
  cases ds <;> simp_all [TypeDesc.isRow]
theorem x_loadA {ty' : TypeId} {ds : TypeDesc} {b o : Nat} {cs : List Value} (hu : P.underlying ty' = some ds) (hd : ds.isRow = true) (hz : (P.info? ty').map (·.size) = some cs.length) (hx : a.eval x = .pointer (some ⟨b, o, none⟩)) (hc : w.rangeAt b o cs) :
    (execOp a.eval ⟨d, .load ty' x, ty, pos, aft, g⟩).run P w = .ok (.value (.agg cs.toArray)) w := by
  unfold execOp
  simp only [hx, Instr.loadAt, Instr.sureAddr, Sem.run_bind, Sem.run_pure, Result.andThen_ok, run_loadVar_mid (P := P) w b o ty' cs ds hc hu hd hz]
end
end Go.Proofs.Ytilgolflpdpfnaa
