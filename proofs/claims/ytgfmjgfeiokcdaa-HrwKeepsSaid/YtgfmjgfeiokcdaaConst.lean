
/- []byte("..") of a constant: a row becomes what is only read. Any program. -/
import Derived.Test.YtgfmjgfeiokcdaaRws
namespace Go.Proofs.Ytgfmjgfeiokcdaa
open Go.RowKit
theorem view_marked {w : World} {g : Nat} {t : TypeId} {l : List Value} {fz : Nat × Nat} (h : w.heap[g]? = some (.cells l.toArray t fz)) : View w w.heap.size (some ⟨g, 0, none⟩) l := fun _ =>
  ⟨g, 0, rfl, (Array.getElem?_eq_some_iff.1 h).1, fun j u hu => by
    simp only [World.cell?, h, Nat.zero_add]
    simpa using hu⟩
theorem ow_bconst {P : Program} {F : List Nat} {w0 w : World} {M : List Ent} {x : Operand} {d n m c g : Nat} {t u ty : TypeId} {l : List Value} {pos : String} {aft : Array Edge} {gd : Option (Nat × Bool)} {f : Nat → Value} {K : Act → World → Prop} {Q : Exit → Act → World → Prop}
    (h : St F w0 M w) (i : Nat) (hM : M[i]? = some (.blk g t l)) (ht : P.underlying u = some (.slice t)) (he : P.underlying t = some (.int .u8)) (hx : (act n f).eval x = .slice (some ⟨g, 0, none⟩) m c)
    (hK : ∀ w', St F w0 (M.set i (.vw (some ⟨g, 0, none⟩) l)) w' → K (act n (upd f d (.slice (some ⟨g, 0, none⟩) m c))) w') : OW P ⟨some d, .convert u u x, ty, pos, aft, gd⟩ (act n f) w K Q := by
  refine ⟨?_⟩
  have hA : w.heap[g]? = some (.cells l.toArray t (0, 0)) := h.ok _ (mem_of_get hM)
  have hlt := (Array.getElem?_eq_some_iff.1 hA).1
  have hsh : w.shape? g = some (t, l.length) := by
    unfold World.shape?
    rw [hA]
    simp
  have hr : (convert u u (.slice (some ⟨g, 0, none⟩) m c)).run P w = .ok (.slice (some ⟨g, 0, none⟩) m c) (w.freeze ⟨g, l.length, none⟩ 1) := by
    simp [convert, run_underlying ht, run_underlying he, markStringish, hsh]
  unfold Oper.wp execOp
  simp only [hx, Sem.run_bind, hr, Result.andThen_ok, Sem.run_pure, Oper.upon, act_put]
  have hg : (w.freeze ⟨g, l.length, none⟩ 1).heap[g]? = some (.cells l.toArray t (l.length, l.length + 1)) := by
    unfold World.freeze
    rw [if_neg (by decide)]
    show (w.heap.modify g _)[g]? = _
    rw [Array.getElem?_modify, if_pos rfl, hA]
    simp
  have hk : Kp [g] w (w.freeze ⟨g, l.length, none⟩ 1) := by
    unfold World.freeze
    rw [if_neg (by decide)]
    refine ⟨rfl, rfl, rfl, by simp, fun k hk hn => ?_⟩
    show (w.heap.modify g _)[k]? = _
    rw [Array.getElem?_modify, if_neg (by simpa using (fun e : g = k => hn (by simp [e])))]
  have h1 := h.set_ (e' := .obj g (.cells l.toArray t (l.length, l.length + 1))) hM rfl hk hg rfl (fun g' hg' => .inl hg')
  have hi : i < M.length := by
    rcases Nat.lt_or_ge i M.length with h' | h'
    · exact h'
    · rw [List.getElem?_eq_none h'] at hM; cases hM
  have h2 := h1.asv i (A := some ⟨g, 0, none⟩) (xs := l) (by rw [List.getElem?_set, if_pos rfl, if_pos hi]) (view_marked hg) (fun g' hg' => by
    cases l with
    | nil => cases hg'
    | cons => exact hg') rfl
  rw [List.set_set] at h2
  exact hK _ h2
end Go.Proofs.Ytgfmjgfeiokcdaa
