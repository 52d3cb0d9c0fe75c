
/- append to a row that one owns, saying in which block the new row lies: the old one's, or a new one. Conditions: none but the bounds of a slice. -/
import Derived.Test.YtocnmcndcdncmaaDoorMem
import Derived.Laws.AppendOwn
namespace Go.Proofs.YtocnmcndcdncmaaDoor
open Go.RowKit

theorem own_slice {w : World} {base : Nat} {e : TypeId} {size : Nat} {v : Value} {n : Nat} {xs : List Value} (h : w.ownsRow base e size v n xs) (hn : 0 < n) : ∃ g c, v = .slice (some ⟨g, 0, none⟩) n c := by
  rcases h.2 with ⟨_, h0⟩ | ⟨g, c, _, rfl, _⟩
  · omega
  · exact ⟨g, c, rfl⟩

theorem owp_append_at {P : Program} {w : World} {o : Oper} {a : Act} {K : Act → World → Prop} {Q : Exit → Act → World → Prop} (s x : Operand) (t : TypeId)
    (ho : o.op = .call { callee := .builtin .append, args := #[s, x], argTypes := #[t, t] })
    (base : Nat) (e : TypeId) (i : TypeInfo) (z : Value) (size bytes : Nat) (ht : P.underlying t = some (.slice e)) (hi : P.info? e = some i) (hz : i.zero = some z)
    (hsize : i.size = size) (hby : i.bytes = bytes) (hzs : z.cells.size = size) (hsz : 0 < size)
    (A : Option Addr) (n c : Nat) (xs : List Value) (hs : a.eval s = .slice A n c) (hown : w.ownsRow base e size (.slice A n c) n xs)
    (ad : Addr) (m c1 : Nat) (news : List Value) (hx : a.eval x = .slice (some ad) m c1) (hl : news.length = m * size) (hnews : ∀ j u, news[j]? = some u → w.cell? (ad.add j) = some u) (h1 : ∀ u ∈ news, u.oneCell' = true)
    (hm : 0 < m) (h63 : n + m ≤ maxLen) (hbytes : (n + m) * bytes ≤ 140737488355328) (hbase : base ≤ w.heap.size)
    (h : ∀ g' c' w', Hid (w'.ownsRow base e size (.slice (some ⟨g', 0, none⟩) (n + m) c') (n + m) (xs ++ news)) → w.grownBy w' (A.map (·.block)) → (A = some ⟨g', 0, none⟩ ∨ w.heap.size ≤ g') → g' < w'.heap.size → K (a.put o.dst (.slice (some ⟨g', 0, none⟩) (n + m) c')) w') : o.wp P a w K Q := by
  obtain ⟨v', w', hr, h2, h3, h4⟩ := run_append_own (P := P) w base t o.type e i z size bytes ht hi hz hsize hby hzs hsz _ n xs hown ad m c1 news hl hnews h1 h63 hbytes hbase
  obtain ⟨g', c', rfl⟩ := own_slice h2 (by omega)
  have hpl : A = some ⟨g', 0, none⟩ ∨ w.heap.size ≤ g' := by
    subst hsize
    subst hby
    rcases hown.2 with ⟨e0, rfl⟩ | ⟨g, cap, cur, e0, hbg, hg, hnc, hcm, hcs, htake⟩
    · injection e0 with e1 e2 e3
      subst e1; subst e3
      have hxs : xs = [] := List.eq_nil_of_length_eq_zero (by simpa using hown.1)
      subst hxs
      have hr2 := run_append_nil (P := P) w t o.type e i z ht hi hz ad m c1 news hl hnews (by omega) (by simp only [maxLen] at h63; omega) (by have hb := hbytes; simp only [Nat.zero_add] at hb; omega)
      rw [hr2] at hr
      injection hr with hr _
      injection hr with hr
      injection hr with hr
      injection hr with hr
      exact .inr (by omega)
    · injection e0 with e1 e2 e3
      subst e1; subst e3
      by_cases hroom : n + m ≤ c
      · have hfit : n * i.size + news.length ≤ cur.size := by rw [hl, hcs, ← Nat.add_mul]; exact Nat.mul_le_mul_right _ hroom
        have hr2 := run_append_room (P := P) w t o.type e i ht hi g n c cur hg ad m c1 news hl hnews h1 hroom hfit
        rw [hr2] at hr
        injection hr with hr _
        injection hr with hr
        exact .inl hr
      · have holds : ∀ j u, xs[j]? = some u → w.cell? ((⟨g, 0, none⟩ : Addr).add j) = some u := hown.cells (g := g) rfl
        have hr2 := run_append_grow (P := P) w t o.type e i z ht hi hz ⟨g, 0, none⟩ n c xs hown.1 holds ad m c1 news hl hnews (by omega) (by simp only [maxLen] at h63; omega) (growslice_fits (by omega) hbytes)
        rw [hr2] at hr
        injection hr with hr _
        injection hr with hr
        injection hr with hr
        injection hr with hr
        exact .inr (by omega)
  unfold Oper.wp execOp
  simp only [ho, resolve, invoke, builtin, Sem.run_bind, Sem.run_pure, Result.andThen_ok, List.map_toArray, List.map_cons, List.map_nil, hs, hx, hr]
  refine h g' c' w' h2 ?_ hpl (World.ownsRow.lt h2 g' rfl).2
  cases A with
  | none => exact h3
  | some ad => exact h3

theorem wp_append_at {P : Program} {w : World} {ops : Array Oper} {rest : List Oper} {o : Oper} {a : Act} {Q : Exit → Act → World → Prop} (hgd : o.guard = none) (s x : Operand) (t : TypeId)
    (ho : o.op = .call { callee := .builtin .append, args := #[s, x], argTypes := #[t, t] })
    (base : Nat) (e : TypeId) (i : TypeInfo) (z : Value) (size bytes : Nat) (ht : P.underlying t = some (.slice e)) (hi : P.info? e = some i) (hz : i.zero = some z)
    (hsize : i.size = size) (hby : i.bytes = bytes) (hzs : z.cells.size = size) (hsz : 0 < size)
    (A : Option Addr) (n c : Nat) (xs : List Value) (hs : a.eval s = .slice A n c) (hown : w.ownsRow base e size (.slice A n c) n xs)
    (ad : Addr) (m c1 : Nat) (news : List Value) (hx : a.eval x = .slice (some ad) m c1) (hl : news.length = m * size) (hnews : ∀ j u, news[j]? = some u → w.cell? (ad.add j) = some u) (h1 : ∀ u ∈ news, u.oneCell' = true)
    (hm : 0 < m) (h63 : n + m ≤ maxLen) (hbytes : (n + m) * bytes ≤ 140737488355328) (hbase : base ≤ w.heap.size)
    (h : ∀ g' c' w', Hid (w'.ownsRow base e size (.slice (some ⟨g', 0, none⟩) (n + m) c') (n + m) (xs ++ news)) → w.grownBy w' (A.map (·.block)) → (A = some ⟨g', 0, none⟩ ∨ w.heap.size ≤ g') → g' < w'.heap.size → wpList P ops Q rest (a.put o.dst (.slice (some ⟨g', 0, none⟩) (n + m) c')) w') : wpList P ops Q (o :: rest) a w := by
  refine wpList_plain hgd fun K hK => ?_
  exact owp_append_at s x t ho base e i z size bytes ht hi hz hsize hby hzs hsz A n c xs hs hown ad m c1 news hx hl hnews h1 hm h63 hbytes hbase fun g' c' w' h2 h3 h4 h5 => hK _ _ (h g' c' w' h2 h3 h4 h5)

theorem row_form {w : World} {base : Nat} {e : TypeId} {size n c : Nat} {A : Option Addr} {l : List Value} (h : w.ownsRow base e size (.slice A n c) n l) :
    A = none ∨ ∃ g, A = some ⟨g, 0, none⟩ ∧ base ≤ g ∧ g < w.heap.size := by
  rcases h.2 with ⟨e0, _⟩ | ⟨g, cap, cur, e0, hb, hg', hr⟩
  · injection e0 with e1; exact .inl e1
  · injection e0 with e1; exact .inr ⟨g, e1, hb, (Array.getElem?_eq_some_iff.1 hg').1⟩
/-- A row is as it was where another block, or none, has turned. -/
theorem own_keep {w w' : World} {base : Nat} {e : TypeId} {size n c : Nat} {A : Option Addr} {l : List Value} {row : Option Nat} (h : w.ownsRow base e size (.slice A n c) n l) (hg : w.grownBy w' row)
    (hne : ∀ g, A = some ⟨g, 0, none⟩ → some g ≠ row) : w'.ownsRow base e size (.slice A n c) n l := by
  refine ⟨h.1, ?_⟩
  rcases h.2 with h0 | ⟨g, cap, cur, e0, hb, hg', hr⟩
  · exact .inl h0
  · have e1 : A = some ⟨g, 0, none⟩ := by injection e0
    exact .inr ⟨g, cap, cur, e0, hb, (hg.block g (Array.getElem?_eq_some_iff.1 hg').1 (hne g e1)).trans hg', hr⟩

/-- One value of one cell more. -/
theorem wp_append_one {P : Program} {w : World} {ops : Array Oper} {rest : List Oper} {o : Oper} {a : Act} {Q : Exit → Act → World → Prop} (hgd : o.guard = none) (s x : Operand) (t : TypeId)
    (ho : o.op = .call { callee := .builtin .append, args := #[s, x], argTypes := #[t, t] })
    (base : Nat) (e : TypeId) (z : Value) (by_ : Nat) (hz1 : z.cells = #[z]) (ht : P.underlying t = some (.slice e)) (h2 : (P.info? e).map (fun i => (i.zero, i.size, i.bytes)) = some (some z, 1, by_))
    (A : Option Addr) (n c : Nat) (xs : List Value) (hs : a.eval s = .slice A n c) (hown : w.ownsRow base e 1 (.slice A n c) n xs)
    (g1 : Nat) (u : Value) (hx : a.eval x = .slice (some ⟨g1, 0, none⟩) 1 1) (hu : w.cell? ⟨g1, 0, none⟩ = some u) (h1 : u.oneCell' = true)
    (h63 : n + 1 ≤ maxLen) (hbytes : (n + 1) * by_ ≤ 140737488355328) (hbase : base ≤ w.heap.size)
    (h : ∀ g' c' w', Hid (w'.ownsRow base e 1 (.slice (some ⟨g', 0, none⟩) (n + 1) c') (n + 1) (xs ++ [u])) → w.grownBy w' (A.map (·.block)) → (A = some ⟨g', 0, none⟩ ∨ w.heap.size ≤ g') → g' < w'.heap.size → wpList P ops Q rest (a.put o.dst (.slice (some ⟨g', 0, none⟩) (n + 1) c')) w') : wpList P ops Q (o :: rest) a w := by
  obtain ⟨i, hi, hz, hsz, hby⟩ := info_parts h2
  refine wp_append_at hgd s x t ho base e i z 1 by_ ht hi hz hsz hby (by rw [hz1]; rfl) (by omega) A n c xs hs hown ⟨g1, 0, none⟩ 1 1 [u] hx rfl ?_ ?_ (by omega) h63 hbytes hbase h
  · intro j v hv
    match j, hv with
    | 0, hv => rw [List.getElem?_cons_zero] at hv; rw [← hv]; exact hu
  · intro v hv
    rw [List.mem_singleton] at hv
    rw [hv]; exact h1

/-- One value of one cell more. -/
theorem owp_append_one {P : Program} {w : World} {o : Oper} {a : Act} {K : Act → World → Prop} {Q : Exit → Act → World → Prop} (s x : Operand) (t : TypeId)
    (ho : o.op = .call { callee := .builtin .append, args := #[s, x], argTypes := #[t, t] })
    (base : Nat) (e : TypeId) (z : Value) (by_ : Nat) (hz1 : z.cells = #[z]) (ht : P.underlying t = some (.slice e)) (h2 : (P.info? e).map (fun i => (i.zero, i.size, i.bytes)) = some (some z, 1, by_))
    (A : Option Addr) (n c : Nat) (xs : List Value) (hs : a.eval s = .slice A n c) (hown : w.ownsRow base e 1 (.slice A n c) n xs)
    (g1 : Nat) (u : Value) (hx : a.eval x = .slice (some ⟨g1, 0, none⟩) 1 1) (hu : w.cell? ⟨g1, 0, none⟩ = some u) (h1 : u.oneCell' = true)
    (h63 : n + 1 ≤ maxLen) (hbytes : (n + 1) * by_ ≤ 140737488355328) (hbase : base ≤ w.heap.size)
    (h : ∀ g' c' w', Hid (w'.ownsRow base e 1 (.slice (some ⟨g', 0, none⟩) (n + 1) c') (n + 1) (xs ++ [u])) → w.grownBy w' (A.map (·.block)) → (A = some ⟨g', 0, none⟩ ∨ w.heap.size ≤ g') → g' < w'.heap.size → K (a.put o.dst (.slice (some ⟨g', 0, none⟩) (n + 1) c')) w') : o.wp P a w K Q := by
  obtain ⟨i, hi, hz, hsz, hby⟩ := info_parts h2
  refine owp_append_at s x t ho base e i z 1 by_ ht hi hz hsz hby (by rw [hz1]; rfl) (by omega) A n c xs hs hown ⟨g1, 0, none⟩ 1 1 [u] hx rfl ?_ ?_ (by omega) h63 hbytes hbase h
  · intro j v hv
    match j, hv with
    | 0, hv => rw [List.getElem?_cons_zero] at hv; rw [← hv]; exact hu
  · intro v hv
    rw [List.mem_singleton] at hv
    rw [hv]; exact h1
end Go.Proofs.YtocnmcndcdncmaaDoor
