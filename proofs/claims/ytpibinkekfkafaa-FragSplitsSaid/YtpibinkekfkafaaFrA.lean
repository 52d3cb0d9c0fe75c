
/- Rows of slices whose views lie apart from what is written; a packet cut into pieces. Conditions: none. -/
import Derived.Test.YtpibinkekfkafaaIp4M
import Derived.Test.YtpibinkekfkafaaJoin
namespace Go.Proofs.Ytpibinkekfkafaa
open Go.ChangeShapes Go.WideShapes Go.ChangeAt Go.RowKit
theorem upd_ne {f : Nat → Value} {a b : Nat} {v x : Value} (e : Nat.beq b a = false) (h : f b = x) : upd f a v b = x := by
  unfold upd; rw [e]; exact h
abbrev Row3 := Option Addr × List Nat × Nat
section
variable {F : List Nat} {w0 w w' : World} {M M' : List Ent}
theorem mem_blks {M : List Ent} {b : Nat} (h : b ∈ blks M) : ∃ e ∈ M, e.blk? = some b := by
  unfold blks at h
  obtain ⟨e, he, hb⟩ := List.mem_filterMap.1 h
  exact ⟨e, he, hb⟩
def Rws (w : World) (lo : Nat) (gs : List Nat) (rows : List Row3) : Prop := ∀ r ∈ rows, View w w.heap.size r.1 (r.2.1.map u8v) ∧ ∀ b, (Ent.vw r.1 (r.2.1.map u8v)).blk? = some b → b ∉ gs ∧ lo ≤ b
theorem Rws.nil {lo : Nat} {gs : List Nat} : Rws w lo gs [] := fun r hr => by cases hr
theorem Rws.step {lo : Nat} {gs : List Nat} {rows : List Row3} (h : Rws w lo gs rows) (hS : St gs w M' w') (hro : M'.all (fun e => !e.ro) = true) : Rws w' lo (blks M') rows := fun r hr => by
  obtain ⟨hv, hb⟩ := h r hr
  have hok : (Ent.vw r.1 (r.2.1.map u8v)).ok w := hv
  refine ⟨Ent.ok_keep hok hS.kp.size fun g hg => hS.kp.block g (Ent.ok_lt hok hg) (hb g hg).1, fun b hbb => ⟨fun hm => ?_, (hb b hbb).2⟩⟩
  obtain ⟨e, he, heb⟩ := mem_blks hm
  have hre : e.ro = false := by simpa using List.all_eq_true.1 hro e he
  rcases hS.own e he hre b heb with h1 | h1
  · exact (hb b hbb).1 h1
  · have := Ent.ok_lt hok hbb
    omega
theorem Rws.kept {lo : Nat} {gs : List Nat} {rows : List Row3} (h : Rws w lo gs rows) (hk : Kp [] w w') : Rws w' lo gs rows := fun r hr => by
  obtain ⟨hv, hb⟩ := h r hr
  have hok : (Ent.vw r.1 (r.2.1.map u8v)).ok w := hv
  exact ⟨Ent.ok_keep hok hk.size fun g hg => hk.block g (Ent.ok_lt hok hg) (by simp), hb⟩
theorem Rws.snoc {lo : Nat} {rows : List Row3} {A : Option Addr} {l : List Nat} (c : Nat) (h : Rws w lo (blks M') rows) (hS : St F w0 (.vw A (l.map u8v) :: M') w) (hro : M'.all (fun e => !e.ro) = true) (hlo : ∀ b, (Ent.vw A (l.map u8v)).blk? = some b → lo ≤ b) : Rws w lo (blks M') (rows ++ [(A, l, c)]) := fun r hr => by
  rcases List.mem_append.1 hr with hr | hr
  · exact h r hr
  · obtain rfl := List.mem_singleton.1 hr
    refine ⟨hS.ok _ (List.mem_cons_self ..), fun b hb => ⟨fun hm => ?_, hlo b hb⟩⟩
    obtain ⟨e, he, heb⟩ := mem_blks hm
    have hre : e.ro = false := by simpa using List.all_eq_true.1 hro e he
    obtain ⟨i, hi⟩ := List.getElem?_of_mem he
    rcases hS.ap 0 (i + 1) _ _ (by omega) rfl (by rw [List.getElem?_cons_succ]; exact hi) with h1 | h1 | h1 | h1
    · rw [hre] at h1; simp at h1
    · rw [show (Ent.vw A (l.map u8v)).blk? = some b from hb] at h1; cases h1
    · rw [heb] at h1; cases h1
    · rw [heb, show (Ent.vw A (l.map u8v)).blk? = some b from hb] at h1; exact h1 rfl
theorem Rws.newv {gs : List Nat} {rows : List Row3} (h : Rws w w0.heap.size gs rows) : ∀ r ∈ rows, NewV w0 w r.1 (r.2.1.map u8v) := fun r hr => ⟨(h r hr).1, fun b hb => ((h r hr).2 b hb).2⟩
end
/-- What comes of cutting n bytes every s: pieces B p, or the first error E p. -/
def CutR (B : Nat → List Nat) (E : Nat → Nat) (n s : Nat) (rows : List Row3) (er : Nat) : Prop :=
  (er ≠ 0 ∧ rows = [] ∧ ∃ k, k * s < n ∧ (∀ j, j < k → E (j * s) = 0) ∧ E (k * s) = er) ∨
  (er = 0 ∧ ∃ k, rows.map (·.2.1) = (List.range k).map (fun j => B (j * s)) ∧ n ≤ k * s ∧ ∀ j, j < k → j * s < n ∧ E (j * s) = 0)
theorem CutR.same {B : Nat → List Nat} {E : Nat → Nat} {n s : Nat} {r1 r2 : List Row3} {e1 e2 : Nat} (h1 : CutR B E n s r1 e1) (h2 : CutR B E n s r2 e2) : e1 = e2 ∧ r1.map (·.2.1) = r2.map (·.2.1) := by
  rcases h1 with ⟨a1, rfl, k, a2, a3, a4⟩ | ⟨rfl, k, a2, a3, a4⟩ <;> rcases h2 with ⟨b1, rfl, q, b2, b3, b4⟩ | ⟨rfl, q, b2, b3, b4⟩
  · have : k = q := by
      rcases Nat.lt_trichotomy k q with h | h | h
      · have := b3 k h; omega
      · exact h
      · have := a3 q h; omega
    subst this
    exact ⟨by omega, rfl⟩
  · exfalso
    have h : k < q := by
      rcases Nat.lt_or_ge k q with h | h
      · exact h
      · have := Nat.mul_le_mul_right s h; omega
    have := (b4 k h).2
    omega
  · exfalso
    have h : q < k := by
      rcases Nat.lt_or_ge q k with h | h
      · exact h
      · have := Nat.mul_le_mul_right s h; omega
    have := (a4 q h).2
    omega
  · have : k = q := by
      rcases Nat.lt_trichotomy k q with h | h | h
      · have := (b4 k h).1; omega
      · exact h
      · have := (a4 q h).1; omega
    subst this
    exact ⟨rfl, a2.trans b2.symm⟩
theorem CutR.lens {B : Nat → List Nat} {E : Nat → Nat} {n s m : Nat} {rows : List Row3} {er : Nat} (h : CutR B E n s rows er) (hB : ∀ p, p < n → E p = 0 → (B p).length ≤ m) : ∀ r ∈ rows, r.2.1.length ≤ m := fun r hr => by
  rcases h with ⟨_, rfl, _⟩ | ⟨_, k, a2, _, a4⟩
  · cases hr
  · have hm : r.2.1 ∈ rows.map (·.2.1) := List.mem_map_of_mem hr
    rw [a2] at hm
    obtain ⟨j, hj, he⟩ := List.mem_map.1 hm
    have hj' := List.mem_range.1 hj
    rw [← he]
    exact hB _ (a4 j hj').1 (a4 j hj').2
def Packs (fn : Nat) (H : Option Addr → Nat → List Value) (o x pp : List Nat) (er : Nat) : Prop := ∀ (w : World) (O : Option Addr) (c : Nat) (L : Option Addr) (cl : Nat), View w w.heap.size O (o.map u8v) → View w w.heap.size L (x.map u8v) →
  Calls Try.prog fn #[.agg (H O c).toArray, .slice L x.length cl] w fun e w' => ∃ A n c', n = pp.length ∧ e = .returned (.tuple #[.slice A n c', .int .i64 (er : Int)]) ∧ New w w' (.row (.slice A n c') 5 1 n (pp.map u8v)) ∧ Kp [] w w'
/-- The pieces of a packet with this header, as a function of the place. -/
def CutP (fn : Nat) (tos : Nat) (len : Int) (id : Nat) (stay more : Bool) (off ttl pr sum : Nat) (s d : Ad) (o x : List Nat) (sp : Nat) (B : Nat → List Nat) (E : Nat → Nat) : Prop :=
  ∀ (p m : Nat) (b : Bool) (z : Int), p < x.length → m = min (p + 8 * sp) x.length - p → b = (more || decide (p + m < x.length)) → z = ((off + p / 8 : Nat) : Int) → Packs fn (fun O c => hdV tos len id stay b z ttl pr sum s d O o.length c) o ((x.drop p).take m) (B p) (E p)
end Go.Proofs.Ytpibinkekfkafaa
