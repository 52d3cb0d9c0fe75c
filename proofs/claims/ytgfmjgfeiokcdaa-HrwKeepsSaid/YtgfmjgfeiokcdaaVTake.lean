
/- varint.Take, All and the reference's Take by contracts. Conditions: bounds on lengths. -/
import Derived.Test.YtgfmjgfeiokcdaaReader
import Derived.Test.YtgfmjgfeiokcdaaVarint
import Derived.Test.YtgfmjgfeiokcdaaAppend
namespace Go.Proofs.Ytgfmjgfeiokcdaa.Old
open Go.RowKit

def vsz (l : List Nat) : Nat := 2 ^ (nth l 0 / 64)
def vval (l : List Nat) : Nat := nth l 0 % 64 * 256 ^ (vsz l - 1) + numBE ((l.drop 1).take (vsz l - 1))
theorem numBE_one {l : List Nat} (h : 0 < l.length) : numBE (l.take 1) = nth l 0 := by
  have := numBE_snoc l 0 h
  simpa [numBE] using this
theorem and63 (f : Nat) (h : f < 256) : bits .and .u64 (f : Int) 63 = ((f % 64 : Nat) : Int) := by
  rw [u64_and (f : Int) 63 (by omega) (by omega) (by omega) (by omega)]
  have : f &&& (2 ^ 6 - 1) = f % 2 ^ 6 := Nat.and_two_pow_sub_one_eq_mod f 6
  simp only [Int.toNat_natCast]
  rw [show ((63 : Int).toNat) = 2 ^ 6 - 1 from rfl, this]
theorem or_hi (x y k : Nat) (hk : k < 8) (hx : x < 64) (hy : y < 256 ^ k) : bits .or .u64 ((x * 256 ^ k : Nat) : Int) (y : Int) = ((x * 256 ^ k + y : Nat) : Int) := by
  have h7 : (256 : Nat) ^ k ≤ 256 ^ 7 := Nat.pow_le_pow_right (by omega) (by omega)
  have h8 : (256 : Nat) ^ 7 = 72057594037927936 := by decide
  have hm : x * 256 ^ k ≤ 63 * 72057594037927936 := Nat.mul_le_mul (by omega) (by omega)
  have hj := Nat.two_pow_add_eq_or_of_lt (i := 8 * k) (b := y) (by rw [Nat.pow_mul]; exact hy) x
  rw [Nat.pow_mul, Nat.mul_comm (_ ^ _) x] at hj
  generalize 256 ^ k = P at *
  have hj2 : x * P ||| y = x * P + y := hj.symm
  generalize x * P = m at hm hj2 ⊢
  rw [u64_or (m : Int) (y : Int) (by omega) (by omega) (by omega) (by omega)]
  simp only [Int.toNat_natCast]
  rw [hj2]

def VOk (l : List Nat) : Prop := 0 < l.length ∧ vsz l ≤ l.length
def RestOK (w : World) (g : Nat) (l : List Nat) (e : Ending) (w' : World) : Prop :=
  ∃ A c, e = .returned (.slice A l.length c) ∧ l.length ≤ c ∧ BView w' g A l ∧ Mod g w w'
def VTakeOK (w : World) (l : List Nat) (e : Ending) (w' : World) : Prop :=
  ∃ A c, e = .returned (.tuple #[.int .u64 (vval l : Nat), .slice A (l.length - vsz l) c, .int .i64 0]) ∧ BView w' w'.heap.size A (l.drop (vsz l)) ∧ Below w.heap.size w w'
def VTakeNo (w : World) (e : Ending) (w' : World) : Prop :=
  e = .returned (.tuple #[.int .u64 0, .slice none 0 0, .int .i64 20]) ∧ Below w.heap.size w w'
theorem owp_append1 {P : Program} {w : World} {o : Oper} {a : Act} {K : Act → World → Prop} {Q : Exit → Act → World → Prop} (s x : Operand) (t : TypeId)
    (ho : o.op = .call { callee := .builtin .append, args := #[s, x], argTypes := #[t, t] })
    (base : Nat) (e : TypeId) (z : Value) (by_ : Nat) (hz1 : z.cells = #[z]) (ht : P.underlying t = some (.slice e)) (h2 : (P.info? e).map (fun i => (i.zero, i.size, i.bytes)) = some (some z, 1, by_))
    (A : Option Addr) (n c : Nat) (xs : List Value) (hs : a.eval s = .slice A n c) (hown : Own w base e A n c xs)
    (B : Nat) (ad : Addr) (m cx : Nat) (ys : List Value) (hx : a.eval x = .slice (some ad) m cx) (hv : View w B (some ad) ys) (hm : ys.length = m) (h1 : ∀ u ∈ ys, u.oneCell' = true)
    (h63 : n + m ≤ maxLen) (hbytes : (n + m) * by_ ≤ 140737488355328) (hbase : base ≤ w.heap.size) (B0 : Nat) (w0 : World) (hb0 : Below B0 w0 w) (hB0 : B0 ≤ base) (hB1 : B0 ≤ w.heap.size)
    (h : ∀ A' c' w', Hid (Own w' base e A' (n + m) c' (xs ++ ys)) → Below B0 w0 w' → Below B0 w w' → K (a.put o.dst (.slice A' (n + m) c')) w') : o.wp P a w K Q := by
  obtain ⟨i, hi, hz, hsz, hby⟩ := info_parts h2
  have hcells : ∀ j u, ys[j]? = some u → w.cell? (ad.add j) = some u := by
    intro j u hu
    obtain ⟨b, o', e1, _, hc⟩ := hv (by rintro rfl; simp at hu)
    injection e1 with e1
    subst e1
    have := hc j u hu
    unfold Addr.add
    split
    · next h0 => subst h0; simpa using this
    · exact this
  obtain ⟨v', w', hr, h2', h3, h4⟩ := run_append_own (P := P) w base t o.type e i z 1 by_ ht hi hz hsz hby (by rw [hz1]; rfl) (by omega) _ n xs hown ad m cx ys (by omega) hcells h1 h63 hbytes hbase
  obtain ⟨A', c', rfl⟩ := own_form h2'
  have hk : ∀ k, Option.map Addr.block A = some k → base ≤ k := by
    intro k hk
    rcases row_form hown with rfl | ⟨g9, rfl, h9, _⟩
    · cases hk
    · simp at hk; omega
  have hg : w.grownBy w' (A.map (·.block)) := by cases A <;> exact h3
  have hbz := (Below.refl B0 w).grown hg hB1 (fun k hk' => by have := hk k hk'; omega)
  unfold Oper.wp execOp
  simp only [ho, resolve, invoke, builtin, Sem.run_bind, Sem.run_pure, Result.andThen_ok, List.map_toArray, List.map_cons, List.map_nil, hs, hx, hr]
  exact h A' c' w' h2' (hb0.trans hbz) hbz

theorem numBE_cons (x : Nat) (l : List Nat) : numBE (x :: l) = x * 256 ^ l.length + numBE l := by
  have key : ∀ (l : List Nat) (a : Nat), l.foldl (fun a c => a * 256 + c) a = a * 256 ^ l.length + numBE l := by
    intro l
    induction l with
    | nil => intro a; simp [numBE]
    | cons y l ih =>
      intro a
      have e1 : numBE (y :: l) = y * 256 ^ l.length + numBE l := by
        show l.foldl _ (0 * 256 + y) = _
        rw [ih]; simp
      rw [List.foldl_cons, ih, e1, List.length_cons, Nat.pow_succ, Nat.add_mul, Nat.mul_assoc, Nat.mul_comm 256, Nat.add_assoc]
  show l.foldl _ (0 * 256 + x) = _
  rw [key]; simp
end Go.Proofs.Ytgfmjgfeiokcdaa.Old
