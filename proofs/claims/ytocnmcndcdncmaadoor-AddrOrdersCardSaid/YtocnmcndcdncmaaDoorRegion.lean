
/- A statement that draws its order, walked in ONE order: what reads memory may be taken as soon as it can come up, because all that follows only adds memory ('Below'). Any program. -/
import Derived.OrdersHeld
import Derived.Below
import Derived.Deep.RegionHeld3
import Derived.WalkKit
import Derived.Deep.QuietTactic
import Derived.BigQuiet
namespace Go.Proofs.YtocnmcndcdncmaaDoor
open Go.RowKit

section
variable {P : Program} {ops : Array Oper} {Q : Exit → Act → World → Prop} {fuel : Nat} {listed : Array Bool} {a : Act} {w : World}

theorem held_strong {S S' : World → Prop} (hS : ∀ w, S' w → S w) : ∀ (fuel : Nat) (listed : Array Bool) (a : Act) (w : World), wpAnyH P .any ops Q S' fuel listed a w → wpAnyH P .any ops Q S fuel listed a w
  | 0, _, _, _, h => h
  | fuel + 1, _, _, _, h => ⟨h.1, fun i hi => wpOp_mono (fun a' w' h' => ⟨hS _ h'.1, held_strong hS fuel _ a' w' h'.2⟩) (h.2 i hi)⟩

/-- From here on, whatever order is drawn; below block B nothing turns any more. -/
def RB (P : Program) (ops : Array Oper) (Q : Exit → Act → World → Prop) (B : Nat) (fuel : Nat) (listed : Array Bool) (a : Act) (w : World) : Prop :=
  B ≤ w.heap.size ∧ wpAnyH P .any ops (NoPanic Q) (fun w' => Below B w w') fuel listed a w

theorem rb_start {id : Nat} (hm : P.follows .mixedOrders = true) (h : ∀ w1, Below w.heap.size w w1 → RB P ops Q w1.heap.size ops.size (Array.replicate ops.size false) a w1) : (Code.region id ops true).wp P Q a w :=
  wp_region_noPanic (wp_region_held hm (h w.drew (Below.refl _ _).drew).2)

/-- The region's calls may turn blocks from B on. -/
theorem rb_start_at {id : Nat} (B : Nat) (hB : B ≤ w.heap.size) (hm : P.follows .mixedOrders = true) (h : ∀ w1, Below w.heap.size w w1 → B ≤ w1.heap.size → RB P ops Q B ops.size (Array.replicate ops.size false) a w1) : (Code.region id ops true).wp P Q a w :=
  wp_region_noPanic (wp_region_held hm (h w.drew (Below.refl _ _).drew hB).2)

theorem rb_take (i : Nat) (d : Option Tmp) {B : Nat} {o : Oper} {v : Value} (hi : ops[i]? = some o) (hd : o.dst = d) (hs : Region.noSelect ops = true) (hf : Region.free .any ops listed i = true) (hr : (Region.ready .any ops listed).contains i = true)
    (hw : Region.wanted o (yielded ops a.tmps) = true) (hy : ∀ w', Below B w w' → (execOp a.eval o).run P w' = .ok (.value v) w')
    (h : RB P ops Q B fuel (listed.setIfInBounds i true) (a.put d v) w) : RB P ops Q B (fuel + 1) listed a w :=
  ⟨h.1, wpAnyH_take hi hs hf hr (fun _ _ _ h => h) (.inl ⟨hw, hy⟩) (Below.refl _ _) (by rw [hd]; exact h.2)⟩

theorem rb_skip (i : Nat) (d : Option Tmp) {B : Nat} {o : Oper} (hi : ops[i]? = some o) (hd : o.dst = d) (hs : Region.noSelect ops = true) (hf : Region.free .any ops listed i = true) (hr : (Region.ready .any ops listed).contains i = true)
    (hw : Region.wanted o (yielded ops a.tmps) = false)
    (h : RB P ops Q B fuel (listed.setIfInBounds i true) (a.put d undef) w) : RB P ops Q B (fuel + 1) listed a w :=
  ⟨h.1, wpAnyH_take hi hs hf hr (fun _ _ _ h => h) (.inr ⟨hw, rfl⟩) (Below.refl _ _) (by rw [hd]; exact h.2)⟩

theorem rb_step (i : Nat) {B : Nat} {o : Oper} (hi : ops[i]? = some o) (hr : Region.ready .any ops listed = [i]) (hw : Region.wanted o (yielded ops a.tmps) = true) (hB : B ≤ w.heap.size)
    (h : ∀ K : Act → World → Prop, Hid (∀ a' w', Below B w w' → RB P ops Q w'.heap.size fuel (listed.setIfInBounds i true) a' w' → K a' w') → o.wp P a w K (NoPanic Q)) : RB P ops Q B (fuel + 1) listed a w := by
  refine ⟨hB, wpAnyH_all hr (by simp) ?_⟩
  intro j hj
  rw [List.mem_singleton] at hj
  subst hj
  unfold wpOp
  simp only [hi, hw, if_true]
  exact .inl (h _ fun a' w' hb hr => ⟨hb, held_strong (fun w'' h'' => hb.trans (h''.mono (Nat.le_trans hB hb.size))) _ _ _ _ hr.2⟩)

/-- The same, the bound kept. -/
theorem rb_keep (i : Nat) {B : Nat} {o : Oper} (hi : ops[i]? = some o) (hr : Region.ready .any ops listed = [i]) (hw : Region.wanted o (yielded ops a.tmps) = true) (hB : B ≤ w.heap.size)
    (h : ∀ K : Act → World → Prop, Hid (∀ a' w', Below B w w' → RB P ops Q B fuel (listed.setIfInBounds i true) a' w' → K a' w') → o.wp P a w K (NoPanic Q)) : RB P ops Q B (fuel + 1) listed a w := by
  refine ⟨hB, wpAnyH_all hr (by simp) ?_⟩
  intro j hj
  rw [List.mem_singleton] at hj
  subst hj
  unfold wpOp
  simp only [hi, hw, if_true]
  exact .inl (h _ fun a' w' hb hr => ⟨hb, held_strong (fun w'' h'' => hb.trans h'') _ _ _ _ hr.2⟩)

/-- Either of two may come up. -/
theorem rb_keep2 (i j : Nat) {B : Nat} {o o' : Oper} (hi : ops[i]? = some o) (hj : ops[j]? = some o') (hr : Region.ready .any ops listed = [i, j]) (hw : Region.wanted o (yielded ops a.tmps) = true) (hw' : Region.wanted o' (yielded ops a.tmps) = true) (hB : B ≤ w.heap.size)
    (h : ∀ K : Act → World → Prop, Hid (∀ a' w', Below B w w' → RB P ops Q B fuel (listed.setIfInBounds i true) a' w' → K a' w') → o.wp P a w K (NoPanic Q))
    (h' : ∀ K : Act → World → Prop, Hid (∀ a' w', Below B w w' → RB P ops Q B fuel (listed.setIfInBounds j true) a' w' → K a' w') → o'.wp P a w K (NoPanic Q)) : RB P ops Q B (fuel + 1) listed a w := by
  refine ⟨hB, wpAnyH_all hr (by simp) ?_⟩
  intro k hk
  simp only [List.mem_cons, List.not_mem_nil, or_false] at hk
  rcases hk with rfl | rfl
  · unfold wpOp
    simp only [hi, hw, if_true]
    exact .inl (h _ fun a' w' hb hr => ⟨hb, held_strong (fun w'' h'' => hb.trans h'') _ _ _ _ hr.2⟩)
  · unfold wpOp
    simp only [hj, hw', if_true]
    exact .inl (h' _ fun a' w' hb hr => ⟨hb, held_strong (fun w'' h'' => hb.trans h'') _ _ _ _ hr.2⟩)

theorem rb_done {B : Nat} (hB : B ≤ w.heap.size) (hr : Region.ready .any ops listed = []) (h : Q .normal a w) : RB P ops Q B fuel listed a w := ⟨hB, wpAnyH_done hr (NoPanic.normal h) fuel⟩
theorem quiet_c {f : FuncId} {args : Array Value} {n : Nat} {v : Value} (h : Calls P f args (w.drewN n) fun e w' => e = .returned v ∧ w.drewN n = w') :
    Calls P f args (w.drewN n) fun e w' => e = .returned v ∧ ∃ m, w' = w.drewN m := h.mono fun _ _ ⟨he, hm⟩ => ⟨he, n, hm.symm⟩
theorem below_drawn {B : Nat} {a w : World} (h : Below B a w) (n : Nat) : Below B a (w.drewN n) := h.trans ⟨rfl, rfl, rfl, Nat.le_refl _, fun _ _ => rfl⟩

end
end Go.Proofs.YtocnmcndcdncmaaDoor
