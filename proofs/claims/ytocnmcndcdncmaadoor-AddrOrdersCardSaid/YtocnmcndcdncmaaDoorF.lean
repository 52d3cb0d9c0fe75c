
/- The engine's second part: numbers that are natural, addresses, lengths, loads. Any program. -/
import Derived.Test.YtocnmcndcdncmaaDoorE
namespace Go.Proofs.YtocnmcndcdncmaaDoor
open Go.RowKit

/-! ### ranges of kinds -/
def fitsN (k : IntKind) (m : Nat) : Prop := k.wrap (m : Int) = (m : Int)
theorem fit_i64 {m : Nat} (h : m ≤ 9223372036854775807) : fitsN .i64 m := IntWalk.i64_in _ (by omega)
theorem fit_u64 {m : Nat} (h : m ≤ 18446744073709551615) : fitsN .u64 m := IntWalk.u64_in _ (by omega)
theorem fit_u32 {m : Nat} (h : m ≤ 4294967295) : fitsN .u32 m := IntWalk.u32_in _ (by omega)
theorem fit_i32 {m : Nat} (h : m ≤ 2147483647) : fitsN .i32 m := IntWalk.i32_in _ (by omega)
theorem fit_u16 {m : Nat} (h : m ≤ 65535) : fitsN .u16 m := IntWalk.u16_in _ (by omega)
theorem fit_u8 {m : Nat} (h : m ≤ 255) : fitsN .u8 m := IntWalk.u8_in _ (by omega)
/-- How many numbers a kind holds that are not below 0. -/
def IntKind.cap (k : IntKind) : Nat := if k.signed then 2 ^ (k.bits - 1) else 2 ^ k.bits
theorem fits_iff (k : IntKind) (m : Nat) : fitsN k m ↔ m < IntKind.cap k := by
  unfold fitsN IntKind.cap
  cases k <;> simp [IntKind.wrap, IntKind.signed, IntKind.bits] <;> (try split) <;> omega
theorem fits_le {k : IntKind} {m m' : Nat} (h : fitsN k m) (hm : m' ≤ m) : fitsN k m' := by
  rw [fits_iff] at *; omega
theorem cap_le (k : IntKind) : IntKind.cap k ≤ 2 ^ k.bits := by cases k <;> decide
theorem cap_pow (k : IntKind) : ∃ b, IntKind.cap k = 2 ^ b ∧ b ≤ k.bits := by
  cases k <;> first | exact ⟨7, rfl, by decide⟩ | exact ⟨8, rfl, by decide⟩ | exact ⟨15, rfl, by decide⟩ | exact ⟨16, rfl, by decide⟩ | exact ⟨31, rfl, by decide⟩ | exact ⟨32, rfl, by decide⟩ | exact ⟨63, rfl, by decide⟩ | exact ⟨64, rfl, by decide⟩
theorem wrap_u {k : IntKind} (hk : k.signed = false) (z : Int) : k.wrap z = z % (2 ^ k.bits : Int) := by
  unfold IntKind.wrap
  rw [hk]
  simp
theorem wrap_uN {k : IntKind} (hk : k.signed = false) (m : Nat) : k.wrap (m : Int) = ((m % 2 ^ k.bits : Nat) : Int) := by
  rw [wrap_u hk]
  push_cast
  rfl

section
variable {P : Program} {a : Act} {w : World} {x y : Operand} {d : Option Tmp} {t t' ty : TypeId} {pos : String} {aft : Array Edge} {g : Option (Nat × Bool)} {k k' : IntKind} {z z' r : Int} {m n i j : Nat} {v u : Value}

theorem x_addI (hx : a.eval x = .int k z) (hy : a.eval y = .int k z') (hr : k.wrap (z + z') = z + z') : (execOp a.eval ⟨d, .binOp .add t x y t', ty, pos, aft, g⟩).run P w = .ok (.value (.int k (z + z'))) w := by have := x_add (P := P) (w := w) (d := d) (t := t) (t' := t') (ty := ty) (pos := pos) (aft := aft) (g := g) hx hy; rwa [hr] at this
theorem x_subI (hx : a.eval x = .int k z) (hy : a.eval y = .int k z') (hr : k.wrap (z - z') = z - z') : (execOp a.eval ⟨d, .binOp .sub t x y t', ty, pos, aft, g⟩).run P w = .ok (.value (.int k (z - z'))) w := by have := x_sub (P := P) (w := w) (d := d) (t := t) (t' := t') (ty := ty) (pos := pos) (aft := aft) (g := g) hx hy; rwa [hr] at this
theorem x_mulI (hx : a.eval x = .int k z) (hy : a.eval y = .int k z') (hr : k.wrap (z * z') = z * z') : (execOp a.eval ⟨d, .binOp .mul t x y t', ty, pos, aft, g⟩).run P w = .ok (.value (.int k (z * z'))) w := by have := x_mul (P := P) (w := w) (d := d) (t := t) (t' := t') (ty := ty) (pos := pos) (aft := aft) (g := g) hx hy; rwa [hr] at this
theorem x_addN (hx : a.eval x = .int k (m : Int)) (hy : a.eval y = .int k (n : Int)) (hr : fitsN k (m + n)) : (execOp a.eval ⟨d, .binOp .add t x y t', ty, pos, aft, g⟩).run P w = .ok (.value (.int k ((m + n : Nat) : Int))) w := by
  have := x_addI (P := P) (w := w) (d := d) (t := t) (t' := t') (ty := ty) (pos := pos) (aft := aft) (g := g) hx hy (by rw [← Int.natCast_add]; exact hr)
  rwa [← Int.natCast_add] at this
theorem x_addU (hx : a.eval x = .int k (m : Int)) (hy : a.eval y = .int k (n : Int)) (hk : k.signed = false) : (execOp a.eval ⟨d, .binOp .add t x y t', ty, pos, aft, g⟩).run P w = .ok (.value (.int k (((m + n) % 2 ^ k.bits : Nat) : Int))) w := by
  have := x_add (P := P) (w := w) (d := d) (t := t) (t' := t') (ty := ty) (pos := pos) (aft := aft) (g := g) hx hy
  rwa [← Int.natCast_add, wrap_uN hk] at this
theorem x_subN (hx : a.eval x = .int k (m : Int)) (hy : a.eval y = .int k (n : Int)) (hm : fitsN k m) (hr : n ≤ m) : (execOp a.eval ⟨d, .binOp .sub t x y t', ty, pos, aft, g⟩).run P w = .ok (.value (.int k ((m - n : Nat) : Int))) w := by
  have e : (m : Int) - (n : Int) = ((m - n : Nat) : Int) := by omega
  have := x_subI (P := P) (w := w) (d := d) (t := t) (t' := t') (ty := ty) (pos := pos) (aft := aft) (g := g) hx hy (by rw [e]; exact fits_le hm (by omega))
  rwa [e] at this
theorem x_subU (hx : a.eval x = .int k (m : Int)) (hy : a.eval y = .int k (n : Int)) (hk : k.signed = false) (hn : fitsN k n) : (execOp a.eval ⟨d, .binOp .sub t x y t', ty, pos, aft, g⟩).run P w = .ok (.value (.int k (((m + (2 ^ k.bits - n)) % 2 ^ k.bits : Nat) : Int))) w := by
  have h := x_sub (P := P) (w := w) (d := d) (t := t) (t' := t') (ty := ty) (pos := pos) (aft := aft) (g := g) hx hy
  have hn' := (fits_iff k n).1 hn
  have hc := cap_le k
  have e : k.wrap ((m : Int) - (n : Int)) = (((m + (2 ^ k.bits - n)) % 2 ^ k.bits : Nat) : Int) := by
    rw [wrap_u hk, Int.natCast_emod, Int.natCast_add, Int.natCast_sub (by omega)]
    rw [show ((m : Int) + (((2 ^ k.bits : Nat) : Int) - n)) = ((m : Int) - n) + ((2 ^ k.bits : Nat) : Int) by omega, Int.add_emod_right]
    push_cast
    rfl
  rwa [e] at h
theorem x_mulN (hx : a.eval x = .int k (m : Int)) (hy : a.eval y = .int k (n : Int)) (hr : fitsN k (m * n)) : (execOp a.eval ⟨d, .binOp .mul t x y t', ty, pos, aft, g⟩).run P w = .ok (.value (.int k ((m * n : Nat) : Int))) w := by
  have := x_mulI (P := P) (w := w) (d := d) (t := t) (t' := t') (ty := ty) (pos := pos) (aft := aft) (g := g) hx hy (by rw [← Int.natCast_mul]; exact hr)
  rwa [← Int.natCast_mul] at this
theorem x_mulU (hx : a.eval x = .int k (m : Int)) (hy : a.eval y = .int k (n : Int)) (hk : k.signed = false) : (execOp a.eval ⟨d, .binOp .mul t x y t', ty, pos, aft, g⟩).run P w = .ok (.value (.int k (((m * n) % 2 ^ k.bits : Nat) : Int))) w := by
  have := x_mul (P := P) (w := w) (d := d) (t := t) (t' := t') (ty := ty) (pos := pos) (aft := aft) (g := g) hx hy
  rwa [← Int.natCast_mul, wrap_uN hk] at this
theorem x_quo (hx : a.eval x = .int k z) (hy : a.eval y = .int k z') (h0 : z' ≠ 0) : (execOp a.eval ⟨d, .binOp .quo t x y t', ty, pos, aft, g⟩).run P w = .ok (.value (.int k (k.wrap (z.tdiv z')))) w :=
  x_bin rfl rfl hx hy fun _ => by simp [Op.intDiv, h0]
theorem x_rem (hx : a.eval x = .int k z) (hy : a.eval y = .int k z') (h0 : z' ≠ 0) : (execOp a.eval ⟨d, .binOp .rem t x y t', ty, pos, aft, g⟩).run P w = .ok (.value (.int k (z.tmod z'))) w :=
  x_bin rfl rfl hx hy fun _ => by simp [Op.intDiv, h0]
theorem x_quoN (hx : a.eval x = .int k (m : Int)) (hy : a.eval y = .int k (n : Int)) (h0 : 0 < n) (hm : fitsN k m) : (execOp a.eval ⟨d, .binOp .quo t x y t', ty, pos, aft, g⟩).run P w = .ok (.value (.int k ((m / n : Nat) : Int))) w := by
  have := x_quo (P := P) (w := w) (d := d) (t := t) (t' := t') (ty := ty) (pos := pos) (aft := aft) (g := g) hx hy (by omega)
  rw [Int.tdiv_eq_ediv_of_nonneg (by omega), ← Int.natCast_ediv] at this
  rwa [show k.wrap ((m / n : Nat) : Int) = ((m / n : Nat) : Int) from fits_le hm (Nat.div_le_self _ _)] at this
theorem x_remN (hx : a.eval x = .int k (m : Int)) (hy : a.eval y = .int k (n : Int)) (h0 : 0 < n) : (execOp a.eval ⟨d, .binOp .rem t x y t', ty, pos, aft, g⟩).run P w = .ok (.value (.int k ((m % n : Nat) : Int))) w := by
  have := x_rem (P := P) (w := w) (d := d) (t := t) (t' := t') (ty := ty) (pos := pos) (aft := aft) (g := g) hx hy (by omega)
  rwa [Int.tmod_eq_emod_of_nonneg (by omega), ← Int.natCast_emod] at this
theorem ofInt_nat {k : IntKind} {m : Nat} (hm : fitsN k m) : (BitVec.ofInt k.bits (m : Int)).toNat = m := by
  have h := (fits_iff k m).1 hm
  have hc := cap_le k
  rw [BitVec.toNat_ofInt, ← Int.natCast_emod, Int.toNat_natCast]
  exact Nat.mod_eq_of_lt (by omega)
theorem x_andN (hx : a.eval x = .int k (m : Int)) (hy : a.eval y = .int k (n : Int)) (hm : fitsN k m) (hn : fitsN k n) : (execOp a.eval ⟨d, .binOp .and t x y t', ty, pos, aft, g⟩).run P w = .ok (.value (.int k ((m &&& n : Nat) : Int))) w :=
  x_bin rfl rfl hx hy fun _ => by
    simp only [Op.intBits, BitVec.toNat_and, ofInt_nat hm, ofInt_nat hn]
    rw [show k.wrap ((m &&& n : Nat) : Int) = ((m &&& n : Nat) : Int) from fits_le hm Nat.and_le_left]
    rfl
theorem x_orN (hx : a.eval x = .int k (m : Int)) (hy : a.eval y = .int k (n : Int)) (hm : fitsN k m) (hn : fitsN k n) : (execOp a.eval ⟨d, .binOp .or t x y t', ty, pos, aft, g⟩).run P w = .ok (.value (.int k ((m ||| n : Nat) : Int))) w :=
  x_bin rfl rfl hx hy fun _ => by
    simp only [Op.intBits, BitVec.toNat_or, ofInt_nat hm, ofInt_nat hn]
    have hr : fitsN k (m ||| n) := by
      obtain ⟨b, hb, _⟩ := cap_pow k
      have hm' := (fits_iff k m).1 hm
      have hn' := (fits_iff k n).1 hn
      rw [hb] at hm' hn'
      rw [fits_iff, hb]
      exact Nat.or_lt_two_pow hm' hn'
    rw [show k.wrap ((m ||| n : Nat) : Int) = ((m ||| n : Nat) : Int) from hr]
    rfl
theorem x_xorN (hx : a.eval x = .int k (m : Int)) (hy : a.eval y = .int k (n : Int)) (hm : fitsN k m) (hn : fitsN k n) : (execOp a.eval ⟨d, .binOp .xor t x y t', ty, pos, aft, g⟩).run P w = .ok (.value (.int k ((m ^^^ n : Nat) : Int))) w :=
  x_bin rfl rfl hx hy fun _ => by
    simp only [Op.intBits, BitVec.toNat_xor, ofInt_nat hm, ofInt_nat hn]
    have hr : fitsN k (m ^^^ n) := by
      obtain ⟨b, hb, _⟩ := cap_pow k
      have hm' := (fits_iff k m).1 hm
      have hn' := (fits_iff k n).1 hn
      rw [hb] at hm' hn'
      rw [fits_iff, hb]
      exact Nat.xor_lt_two_pow hm' hn'
    rw [show k.wrap ((m ^^^ n : Nat) : Int) = ((m ^^^ n : Nat) : Int) from hr]
    rfl
theorem x_shrN (hx : a.eval x = .int k (m : Int)) (hy : a.eval y = .int k' (n : Int)) (hm : fitsN k m) : (execOp a.eval ⟨d, .binOp .shr t x y t', ty, pos, aft, g⟩).run P w = .ok (.value (.int k ((m / 2 ^ n : Nat) : Int))) w := by
  have e : (m : Int).fdiv (2 ^ min n k.bits) = ((m / 2 ^ n : Nat) : Int) := by
    rw [show (2 ^ min n k.bits : Int) = ((2 ^ min n k.bits : Nat) : Int) by push_cast; rfl, Int.fdiv_eq_ediv_of_nonneg _ (Int.natCast_nonneg _), ← Int.natCast_ediv]
    congr 1
    by_cases h : n ≤ k.bits
    · rw [Nat.min_eq_left h]
    · have h1 := (fits_iff k m).1 hm
      have h2 := cap_le k
      have h3 : 2 ^ k.bits ≤ 2 ^ n := Nat.pow_le_pow_right (by omega) (by omega)
      rw [Nat.min_eq_right (by omega), Nat.div_eq_of_lt (by omega), Nat.div_eq_of_lt (by omega)]
  unfold execOp
  simp only [hx, hy, eqGuard, binOp, Op.shift, Sem.run_bind, Sem.run_pure, Result.andThen_ok]
  have h0 : ¬ ((n : Int) < 0) := by omega
  simp [h0, e]
theorem x_shl (hx : a.eval x = .int k z) (hy : a.eval y = .int k' (n : Int)) (hn : n ≤ k.bits) : (execOp a.eval ⟨d, .binOp .shl t x y t', ty, pos, aft, g⟩).run P w = .ok (.value (.int k (k.wrap (z * 2 ^ n)))) w := by
  unfold execOp
  simp only [hx, hy, eqGuard, binOp, Op.shift, Sem.run_bind, Sem.run_pure, Result.andThen_ok]
  have h0 : ¬ ((n : Int) < 0) := by omega
  have h1 : min n k.bits = n := Nat.min_eq_left hn
  simp [h0, h1]
theorem x_shlN (hx : a.eval x = .int k (m : Int)) (hy : a.eval y = .int k' (n : Int)) (hn : n ≤ k.bits) (hr : fitsN k (m * 2 ^ n)) : (execOp a.eval ⟨d, .binOp .shl t x y t', ty, pos, aft, g⟩).run P w = .ok (.value (.int k ((m * 2 ^ n : Nat) : Int))) w := by
  have := x_shl (P := P) (w := w) (d := d) (t := t) (t' := t') (ty := ty) (pos := pos) (aft := aft) (g := g) hx hy hn
  rw [show (m : Int) * 2 ^ n = ((m * 2 ^ n : Nat) : Int) by push_cast; rfl] at this
  rwa [show k.wrap ((m * 2 ^ n : Nat) : Int) = ((m * 2 ^ n : Nat) : Int) from hr] at this
theorem x_shlU (hx : a.eval x = .int k (m : Int)) (hy : a.eval y = .int k' (n : Int)) (hk : k.signed = false) : (execOp a.eval ⟨d, .binOp .shl t x y t', ty, pos, aft, g⟩).run P w = .ok (.value (.int k (((m * 2 ^ n) % 2 ^ k.bits : Nat) : Int))) w := by
  have e : k.wrap ((m : Int) * 2 ^ min n k.bits) = (((m * 2 ^ n) % 2 ^ k.bits : Nat) : Int) := by
    rw [show (m : Int) * 2 ^ min n k.bits = ((m * 2 ^ min n k.bits : Nat) : Int) by push_cast; rfl, wrap_uN hk]
    congr 1
    by_cases h : n ≤ k.bits
    · rw [Nat.min_eq_left h]
    · rw [Nat.min_eq_right (by omega)]
      obtain ⟨q, rfl⟩ : ∃ q, n = k.bits + q := ⟨n - k.bits, by omega⟩
      rw [Nat.pow_add, Nat.mul_mod_left, ← Nat.mul_assoc, Nat.mul_right_comm, Nat.mul_mod_left]
  unfold execOp
  simp only [hx, hy, eqGuard, binOp, Op.shift, Sem.run_bind, Sem.run_pure, Result.andThen_ok]
  have h0 : ¬ ((n : Int) < 0) := by omega
  simp [h0, e]
theorem x_not {b : Bool} (hx : a.eval x = .bool b) : (execOp a.eval ⟨d, .unOp .not t x, ty, pos, aft, g⟩).run P w = .ok (.value (.bool !b)) w := by
  unfold execOp; simp only [hx, Op.unary, Sem.run_bind, Sem.run_pure, Result.andThen_ok]
theorem x_neg (hx : a.eval x = .int k z) : (execOp a.eval ⟨d, .unOp .neg t x, ty, pos, aft, g⟩).run P w = .ok (.value (.int k (k.wrap (0 - z)))) w := by
  unfold execOp; simp only [hx, Op.unary, Op.intArith, Sem.run_bind, Sem.run_pure, Result.andThen_ok]
theorem x_conv {src dst : TypeId} {ds : TypeDesc} (hs : P.underlying src = some ds) (hd : P.underlying dst = some (.int k)) (hx : a.eval x = .int k' z) : (execOp a.eval ⟨d, .convert src dst x, ty, pos, aft, g⟩).run P w = .ok (.value (.int k (k.wrap z))) w := by
  unfold execOp
  simp only [hx, convert, Sem.run_bind, Sem.run_pure, Result.andThen_ok, run_underlying hs, run_underlying hd]
  rfl
theorem x_convN {src dst : TypeId} {ds : TypeDesc} (hs : P.underlying src = some ds) (hd : P.underlying dst = some (.int k)) (hx : a.eval x = .int k' (m : Int)) (hr : fitsN k m) : (execOp a.eval ⟨d, .convert src dst x, ty, pos, aft, g⟩).run P w = .ok (.value (.int k (m : Int))) w := by
  have := x_conv (w := w) (d := d) (ty := ty) (pos := pos) (aft := aft) (g := g) hs hd hx
  rwa [show k.wrap (m : Int) = (m : Int) from hr] at this
theorem x_convU {src dst : TypeId} {ds : TypeDesc} (hs : P.underlying src = some ds) (hd : P.underlying dst = some (.int k)) (hx : a.eval x = .int k' (m : Int)) (hk : k.signed = false) : (execOp a.eval ⟨d, .convert src dst x, ty, pos, aft, g⟩).run P w = .ok (.value (.int k ((m % 2 ^ k.bits : Nat) : Int))) w := by
  have := x_conv (w := w) (d := d) (ty := ty) (pos := pos) (aft := aft) (g := g) hs hd hx
  rwa [wrap_uN hk] at this

/-! ### addresses -/
theorem add_mk (b o n : Nat) : (⟨b, o, none⟩ : Addr).add n = ⟨b, o + n, none⟩ := by
  unfold Addr.add
  split
  · next h => subst h; rfl
  · rfl
theorem x_nil {A : Option Addr} {ad : Addr} (hx : a.eval x = .pointer (some ad)) : (execOp a.eval ⟨d, .nilCheck x, ty, pos, aft, g⟩).run P w = .ok (.value (.pointer (some ad))) w := by
  unfold execOp; simp only [hx]; rfl
theorem x_fa {s : TypeId} {fs : Array Field} {f : Nat} {fd : Field} {sz : Nat} {b o : Nat} (off : Nat) (hs : P.underlying s = some (.struct fs)) (hf : fs[f]? = some fd) (ho : fd.offset = off) (hz : (P.info? fd.type).map (·.size) = some (sz + 1)) (hx : a.eval x = .pointer (some ⟨b, o, none⟩)) :
    (execOp a.eval ⟨d, .fieldAddr s x f, ty, pos, aft, g⟩).run P w = .ok (.value (.pointer (some ⟨b, o + off, none⟩))) w := by
  subst ho
  obtain ⟨ti, hi, hti⟩ : ∃ ti, P.info? fd.type = some ti ∧ ti.size = sz + 1 := by
    cases h : P.info? fd.type with
    | none => rw [h] at hz; cases hz
    | some ti => rw [h] at hz; exact ⟨ti, rfl, by simpa using hz⟩
  unfold execOp
  simp only [hx, Instr.fieldAt, Instr.sureAddr, Sem.run_bind, Sem.run_pure, Result.andThen_ok, run_underlying hs, hf, fieldPlace, sizeOf, typeInfo]
  simp [hi, hti, add_mk]
theorem x_field {s : TypeId} {fs : Array Field} {f : Nat} {fd : Field} {ds : TypeDesc} {cs : Array Value} (hs : P.underlying s = some (.struct fs)) (hf : fs[f]? = some fd) (hu : P.underlying fd.type = some ds) (hd : ds.isRow = false) (hx : a.eval x = .agg cs) (hv : cs[fd.offset]? = some v) :
    (execOp a.eval ⟨d, .field s x f, ty, pos, aft, g⟩).run P w = .ok (.value v) w := by
  unfold execOp
  simp only [hx, Instr.field, Sem.run_bind, Sem.run_pure, Result.andThen_ok, run_underlying hs, hf, part, isAgg, asAgg, run_underlying hu]
  cases ds <;> simp_all [TypeDesc.isRow]
theorem x_ixs {s e : TypeId} {sz : Nat} {b o n c : Nat} (hs : P.underlying s = some (.slice e)) (hz : (P.info? e).map (·.size) = some sz) (hx : a.eval x = .slice (some ⟨b, o, none⟩) n c) (hy : a.eval y = .int k (j : Int)) (hj : j < n) :
    (execOp a.eval ⟨d, .indexAddr s x y, ty, pos, aft, g⟩).run P w = .ok (.value (.pointer (some ⟨b, o + j * sz, none⟩))) w := by
  obtain ⟨ti, hi, hti⟩ : ∃ ti, P.info? e = some ti ∧ ti.size = sz := by
    cases h : P.info? e with
    | none => rw [h] at hz; cases hz
    | some ti => rw [h] at hz; exact ⟨ti, rfl, by simpa using hz⟩
  unfold execOp
  simp only [hx, hy, Instr.indexAt, asIntOf, Sem.run_bind, Sem.run_pure, Result.andThen_ok, run_underlying hs, sizeOf, typeInfo]
  simp [hi, hti, add_mk, hj]
theorem x_ixs1 {s e : TypeId} {b o n c : Nat} (hs : P.underlying s = some (.slice e)) (hz : (P.info? e).map (·.size) = some 1) (hx : a.eval x = .slice (some ⟨b, o, none⟩) n c) (hy : a.eval y = .int k (j : Int)) (hj : j < n) :
    (execOp a.eval ⟨d, .indexAddr s x y, ty, pos, aft, g⟩).run P w = .ok (.value (.pointer (some ⟨b, o + j, none⟩))) w := by
  have := x_ixs (w := w) (d := d) (ty := ty) (pos := pos) (aft := aft) (g := g) hs hz hx hy hj
  rwa [Nat.mul_one] at this
theorem x_ixa {s e : TypeId} {sz : Nat} {b o n : Nat} (hs : P.underlying s = some (.array n e)) (hz : (P.info? e).map (·.size) = some sz) (hx : a.eval x = .pointer (some ⟨b, o, none⟩)) (hy : a.eval y = .int k (j : Int)) (hj : j < n) :
    (execOp a.eval ⟨d, .indexAddr s x y, ty, pos, aft, g⟩).run P w = .ok (.value (.pointer (some ⟨b, o + j * sz, none⟩))) w := by
  obtain ⟨ti, hi, hti⟩ : ∃ ti, P.info? e = some ti ∧ ti.size = sz := by
    cases h : P.info? e with
    | none => rw [h] at hz; cases hz
    | some ti => rw [h] at hz; exact ⟨ti, rfl, by simpa using hz⟩
  unfold execOp
  simp only [hx, hy, Instr.indexAt, Instr.sureAddr, asIntOf, Sem.run_bind, Sem.run_pure, Result.andThen_ok, run_underlying hs, sizeOf, typeInfo]
  simp [hi, hti, add_mk, hj]
theorem x_ixa1 {s e : TypeId} {b o n : Nat} (hs : P.underlying s = some (.array n e)) (hz : (P.info? e).map (·.size) = some 1) (hx : a.eval x = .pointer (some ⟨b, o, none⟩)) (hy : a.eval y = .int k (j : Int)) (hj : j < n) :
    (execOp a.eval ⟨d, .indexAddr s x y, ty, pos, aft, g⟩).run P w = .ok (.value (.pointer (some ⟨b, o + j, none⟩))) w := by
  have := x_ixa (w := w) (d := d) (ty := ty) (pos := pos) (aft := aft) (g := g) hs hz hx hy hj
  rwa [Nat.mul_one] at this
theorem x_index {s e : TypeId} {de : TypeDesc} {n : Nat} {cs : Array Value} (hs : P.underlying s = some (.array n e)) (hz : (P.info? e).map (·.size) = some 1) (hu : P.underlying e = some de) (hd : de.isRow = false) (hx : a.eval x = .agg cs) (hy : a.eval y = .int k (j : Int)) (hj : j < n) (hv : cs[j]? = some v) :
    (execOp a.eval ⟨d, .index s x y, ty, pos, aft, g⟩).run P w = .ok (.value v) w := by
  obtain ⟨ti, hi, hti⟩ : ∃ ti, P.info? e = some ti ∧ ti.size = 1 := by
    cases h : P.info? e with
    | none => rw [h] at hz; cases hz
    | some ti => rw [h] at hz; exact ⟨ti, rfl, by simpa using hz⟩
  unfold execOp
  simp only [hx, hy, Instr.index, asIntOf, Sem.run_bind, Sem.run_pure, Result.andThen_ok, run_underlying hs, sizeOf, typeInfo]
  cases de <;> simp_all [TypeDesc.isRow, part, isAgg, run_underlying hu]
theorem x_extract {vs : Array Value} {ix : Nat} (hx : a.eval x = .tuple vs) (hv : vs[ix]? = some v) : (execOp a.eval ⟨d, .extract x ix, ty, pos, aft, g⟩).run P w = .ok (.value v) w := by
  unfold execOp; simp only [hx, Instr.extract, hv, Sem.run_bind, Sem.run_pure, Result.andThen_ok]
theorem x_len {s e : TypeId} {A : Option Addr} {n c : Nat} (hs : P.underlying s = some (.slice e)) (hx : a.eval x = .slice A n c) : (execOp a.eval ⟨d, .call { callee := .builtin .len, args := #[x], argTypes := #[s] }, ty, pos, aft, g⟩).run P w = .ok (.value (.int .i64 (n : Int))) w := by
  unfold execOp
  simp [resolve, invoke, builtin, Builtin.len_, hx, run_underlying hs, goInt]
theorem x_lenA {s e : TypeId} {n : Nat} (hs : P.underlying s = some (.array n e)) : (execOp a.eval ⟨d, .call { callee := .builtin .len, args := #[x], argTypes := #[s] }, ty, pos, aft, g⟩).run P w = .ok (.value (.int .i64 (n : Int))) w := by
  unfold execOp
  simp [resolve, invoke, builtin, Builtin.len_, run_underlying hs, goInt]
theorem x_max {s s' : TypeId} (hx : a.eval x = .int k (m : Int)) (hy : a.eval y = .int k (n : Int)) : (execOp a.eval ⟨d, .call { callee := .builtin .max, args := #[x, y], argTypes := #[s, s'] }, ty, pos, aft, g⟩).run P w = .ok (.value (.int k ((max m n : Nat) : Int))) w := by
  unfold execOp
  simp [resolve, invoke, builtin, Builtin.max_, Builtin.max2, hx, hy, List.foldlM]
  split <;> omega
theorem x_min {s s' : TypeId} (hx : a.eval x = .int k (m : Int)) (hy : a.eval y = .int k (n : Int)) : (execOp a.eval ⟨d, .call { callee := .builtin .min, args := #[x, y], argTypes := #[s, s'] }, ty, pos, aft, g⟩).run P w = .ok (.value (.int k ((min m n : Nat) : Int))) w := by
  unfold execOp
  simp [resolve, invoke, builtin, Builtin.min_, Builtin.min2, hx, hy, List.foldlM]
  split <;> omega

/-! ### loads -/
theorem x_load {ty' : TypeId} {ds : TypeDesc} {b o : Nat} (hu : P.underlying ty' = some ds) (hd : ds.isRow = false) (hx : a.eval x = .pointer (some ⟨b, o, none⟩)) (hc : w.cell? ⟨b, o, none⟩ = some v) :
    (execOp a.eval ⟨d, .load ty' x, ty, pos, aft, g⟩).run P w = .ok (.value v) w := by
  unfold execOp
  simp only [hx, Instr.loadAt, Instr.sureAddr, Sem.run_bind, Sem.run_pure, Result.andThen_ok, loadVar, isAgg, run_underlying hu]
  have hr : (load ⟨b, o, none⟩).run P w = .ok v w := by simp [load, Sem.run, hc]
  cases ds <;> simp_all [TypeDesc.isRow]
theorem x_loadA {ty' : TypeId} {ds : TypeDesc} {b o : Nat} {cs : List Value} (hu : P.underlying ty' = some ds) (hd : ds.isRow = true) (hz : (P.info? ty').map (·.size) = some cs.length) (hx : a.eval x = .pointer (some ⟨b, o, none⟩)) (hc : w.rangeAt b o cs) :
    (execOp a.eval ⟨d, .load ty' x, ty, pos, aft, g⟩).run P w = .ok (.value (.agg cs.toArray)) w := by
  unfold execOp
  simp only [hx, Instr.loadAt, Instr.sureAddr, Sem.run_bind, Sem.run_pure, Result.andThen_ok, run_loadVar_mid (P := P) w b o ty' cs ds hc hu hd hz]
end
end Go.Proofs.YtocnmcndcdncmaaDoor
