
/- The reference's Derive of siphash by a contract. Conditions: none. -/
import Derived.Test.YtgfmjgfeiokcdaaKeysDerive
namespace Go.Proofs.Ytgfmjgfeiokcdaa.Old
open Go.RowKit

theorem owp_app_mod {P : Program} {w : World} {o : Oper} {a : Act} {K : Act → World → Prop} {Q : Exit → Act → World → Prop} (dst : Option Tmp) (hdst : o.dst = dst) (s x : Operand) (t : TypeId)
    (ho : o.op = .call { callee := .builtin .append, args := #[s, x], argTypes := #[t, t] })
    (g : Nat) (e : TypeId) (z : Value) (by_ : Nat) (hz1 : z.cells = #[z]) (ht : P.underlying t = some (.slice e)) (h2 : (P.info? e).map (fun i => (i.zero, i.size, i.bytes)) = some (some z, 1, by_))
    (n c : Nat) (xs : List Value) (hs : a.eval s = .slice (some ⟨g, 0, none⟩) n c) (hown : Own w g e (some ⟨g, 0, none⟩) n c xs)
    (B : Nat) (ad : Addr) (m cx r : Nat) (ys : List Value) (hx : a.eval x = .slice (some ad) m cx) (hv : View w B (some ad) ys) (hm : ys.length = m) (h1 : ∀ u ∈ ys, u.oneCell' = true)
    (h63 : n + m ≤ maxLen) (hbytes : (n + m) * by_ ≤ 140737488355328) (hr : n + m = r) (hbase : g ≤ w.heap.size)
    (h : ∀ A' c' w', Hid (Own w' g e A' r c' (xs ++ ys)) → Mod g w w' → K (a.put dst (.slice A' r c')) w') : o.wp P a w K Q := by
  subst hdst
  subst hr
  obtain ⟨i, hi, hz, hsz, hby⟩ := info_parts h2
  have hcells : ∀ j u, ys[j]? = some u → w.cell? (ad.add j) = some u := by
    intro j u hu
    obtain ⟨b, o', e1, _, hc⟩ := hv (by rintro rfl; simp at hu)
    injection e1 with e1
    subst e1
    have := hc j u hu
    unfold Addr.add
    split
    · next h0 => subst h0; simpa using this
    · exact this
  obtain ⟨v', w', hr, h2', h3, h4⟩ := run_append_own (P := P) w g t o.type e i z 1 by_ ht hi hz hsz hby (by rw [hz1]; rfl) (by omega) _ n xs hown ad m cx ys (by omega) hcells h1 h63 hbytes hbase
  obtain ⟨A', c', rfl⟩ := own_form h2'
  unfold Oper.wp execOp
  simp only [ho, resolve, invoke, builtin, Sem.run_bind, Sem.run_pure, Result.andThen_ok, List.map_toArray, List.map_cons, List.map_nil, hs, hx, hr]
  exact h A' c' w' h2' h3

end Go.Proofs.Ytgfmjgfeiokcdaa.Old
