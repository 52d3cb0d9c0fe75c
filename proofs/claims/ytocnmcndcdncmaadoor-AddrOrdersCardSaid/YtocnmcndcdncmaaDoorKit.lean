
/- A generic last step: a law whose call returns true and leaves all old memory as it was meets its row. Conditions: none of its own. -/
import Derived.Test.YtocnmcndcdncmaaDoorRows
import Derived.Test.YtocnmcndcdncmaaDoorMem
import Derived.Test.YtocnmcndcdncmaaDoorMath
import Derived.WalkKit
import Derived.ProofKit
import Derived.OpenShut
import Derived.ShutString
import Derived.SizedLaws
import Derived.Deep.Slices
import Derived.Deep.Fields
import Derived.Lib.Hide
import Derived.Lib.SmallJoins
namespace Go.Proofs.YtocnmcndcdncmaaDoor
open Go.ChangeShapes Go.WideShapes Go.ChangeAt Go.RowKit

theorem own_ : ownKnob Tryd.prog.godebug = none := by kernel_rfl
theorem laidOut_ : laidOutB Tryd.prog = true := by kernel_rfl

section
variable {H : Type} {enc : TypeId × Value → H} {P : Program}

theorem trodAll_below (hl : laidOutB P = true) {W W' : World} (hb : Below W.heap.size W W') :
    ∀ (ts : List TypeId) (vs : List Value) (ds : List (DataW H)) (ps : List MemPlace), ts.all (fun t => P.readableRec t && decide (t < P.types.size)) = true →
      DataW.TrodAll enc P W 0 (fun _ => true) true ts vs ds ps → (∀ x ∈ ps, x.block < W.heap.size) →
      DataW.TrodAll enc P W' 0 (fun b => decide (b < W.heap.size)) true ts vs ds ps := by
  intro ts
  induction ts with
  | nil =>
    intro vs ds ps _ h _
    cases vs <;> cases ds <;> simp_all [DataW.TrodAll]
  | cons t ts ih =>
    intro vs ds ps hp h hlt
    obtain ⟨v, vs', d, ds', p, q, rfl, rfl, rfl, h0, hr⟩ := trodAll_cons h
    simp only [List.all_cons, Bool.and_eq_true, decide_eq_true_eq] at hp
    exact trodAll_cons_mk (Below.trod hl hp.1.1 hp.1.2 h0 hb (fun x hx => hlt x (by simp [hx])))
      (ih _ _ _ hp.2 hr (fun x hx => hlt x (by simp [hx])))

theorem trodAll_length {W : World} {base : Nat} {spare : Nat → Bool} {held : Bool} :
    ∀ (ts : List TypeId) (vs : List Value) (ds : List (DataW H)) (ps : List MemPlace), DataW.TrodAll enc P W base spare held ts vs ds ps → vs.length = ts.length ∧ ds.length = ts.length := by
  intro ts
  induction ts with
  | nil => intro vs ds ps h; cases vs <;> cases ds <;> simp_all [DataW.TrodAll]
  | cons t ts ih =>
    intro vs ds ps h
    obtain ⟨v, vs', d, ds', p, q, rfl, rfl, rfl, h0, hr⟩ := trodAll_cons h
    have := ih _ _ _ hr
    simp [this]

theorem lift_law {C : Checked} {os : Os} {f : FuncId} {fn : Func} {s : ChangeSpec} {tb : TypeId}
    (own : ownKnob C.prog.godebug = none) (started : os.Started) (noInit : C.prog.inits.idxOf? f = none) (hfn : C.prog.funcs[f]? = some fn)
    (witness : ∃ (w : World) (tape : Tape) (i : Input), w.os = os ∧ (w.forCall tape i).Shaped C.prog ∧ i.vars = [] ∧ Input.okWide C.prog (w.forCall tape i) .any w.heap.size f i ∧
      s.pre6 enc C.prog fn [] false (w.forCall tape i).memory i.args ∧ ({} : Assume).holds C.prog (lone (Frame.enter C.prog f i.args .normal) [] (w.forCall tape i)))
    (hl : laidOutB C.prog = true) (hp : fn.params.toList.all (fun t => C.prog.readableRec t && decide (t < C.prog.types.size)) = true)
    (hr : fn.resultTypes = #[tb]) (hb : C.prog.underlying tb = some .bool) (hv : s.vars = [])
    (hs : ∀ ds : List (DataW H), ds.length = fn.params.toList.length → s.fn H ds = { results := [.lit (.bool true)], args := ds })
    (walk : ∀ (W : World) (base : Nat) (args : Array Value) (ds : List (DataW H)) (ps : List MemPlace),
      (∀ (j : Nat) t v, fn.params[j]? = some t → args[j]? = some v → Value.okWide C.prog W .any base t v) →
      DataW.TrodAll enc C.prog W 0 (fun _ => true) true fn.params.toList args.toList ds ps →
      (∀ x ∈ ps, x.block < W.heap.size) → W.noneFrozen ps →
      (DataW.weightsEach C.prog fn.params.toList ds).all (· ≤ reachBytes) = true →
      Calls C.prog f args W fun e W' => e = .returned (.bool true) ∧ Below W.heap.size W W') :
    ReturnsInHanded {} C os f .any (s.pre6 enc C.prog fn [] false) (s.post enc C.prog fn false true false false) := by
  refine returnsInHanded_of_change_sized (C := C) own started noInit hfn witness ?_
  intro W base args ds gs before hval hW _ hsz _
  have hW' := hW
  obtain ⟨p, q, hA, hV, rfl, hfz, hnd⟩ := hW
  rw [hv] at hV
  obtain ⟨rfl, rfl⟩ := trodVars_none hV
  simp only [List.append_nil] at hW' hfz
  have hlt : ∀ x ∈ p, x.block < W.heap.size := fun x hx => by simpa using hW'.lt x hx
  have hsz' : (DataW.weightsEach C.prog fn.params.toList ds).all (· ≤ reachBytes) = true := by
    have hvt : s.plain.varTypes C.prog = [] := by
      simp [DataSpec.varTypes, ChangeSpec.plain, hv]
    rw [hvt] at hsz
    simpa using hsz
  have hlen := (trodAll_length _ _ _ _ hA).2
  refine (walk W base args ds p hval hA hlt hfz hsz').mono fun e W' ⟨he, hbel⟩ => ?_
  subst he
  refine ⟨_, rfl, ds, [], p, [], p, [], hW', ?_, ?_, ?_, hbel.frame _, fun h => by cases h⟩
  · simp only [List.append_nil]
    rw [hs ds hlen, hr]
    exact trodAll_cons_mk (shut_bool hb true) trodAll_mk0
  · simp only [List.append_nil]
    rw [hs ds hlen]
    exact trodAll_below hl hbel _ _ _ _ hp hA hlt
  · simp only [List.append_nil]
    rw [hs ds hlen, hv]
    exact rfl
end

section
variable {H : Type} {enc : TypeId × Value → H} {P : Program} {w : World}
theorem row_mem (a : Addr) (n : Nat) (h : 0 < n) : MemPlace.cell a.block a.off ∈ MemPlace.row a n := by
  unfold MemPlace.row
  rw [List.mem_map]
  exact ⟨0, by simp [h], by simp⟩

/-- An argument that is a slice of integers of kind k. -/
theorem open_ints_arg {t e : TypeId} {k : IntKind} {v : Value} {d : DataW H} {ps : List MemPlace} {r : Reach} {b0 : Nat} (ht : P.underlying t = some (.slice e)) (he : P.underlying e = some (.int k)) (hc : P.cellsOf e = 1)
    (hval : Value.okWide P w r b0 t v) (hd : DataW.Trod enc P w 0 (fun _ => true) true t v d ps) (hlt : ∀ x ∈ ps, x.block < w.heap.size) :
    ∃ (A : Option Addr) (n c : Nat) (zs : List Int), v = .slice A n c ∧ zs.length = n ∧ (A = none → c = 0) ∧ n ≤ c ∧ c ≤ maxLen ∧ (∀ z ∈ zs, (Lit.int k z).wf = true) ∧ View w w.heap.size A (zs.map (.int k)) := by
  obtain ⟨A, n, c, rfl⟩ := okWide_slice ht hval
  obtain ⟨fuel, hf⟩ := hd
  rcases open_ints ht he hc hf with ⟨hcs, _⟩ | ⟨a, len, cap, zs, hcs, _, hl, hm, hz, hx, hcell, hwz⟩
  · simp [Value.cells] at hcs
    obtain ⟨rfl, rfl, rfl⟩ := hcs
    exact ⟨none, 0, 0, [], rfl, rfl, fun _ => rfl, Nat.le_refl _, by simp [maxLen], by simp, View.nil_⟩
  · simp [Value.cells] at hcs
    obtain ⟨rfl, rfl, rfl⟩ := hcs
    have hzl : zs.length = c := by simpa using hz
    refine ⟨some a, n, c, zs.take n, rfl, by simp; omega, (by intro h; cases h), hl, hm, fun z hzm => hwz z (List.mem_of_mem_take hzm), ?_⟩
    intro hne
    have hpos : 0 < zs.length := by
      rcases zs with _ | ⟨z, zs⟩
      · simp at hne
      · simp
    have hps : ps = MemPlace.row a zs.length := by injection hx
    have hblk : a.block < w.heap.size := by
      have := hlt (MemPlace.cell a.block a.off) (by rw [hps]; exact row_mem a _ hpos)
      simpa [MemPlace.block] using this
    have hspot : a.spot = none := World.cell?_spot (by simpa [Addr.add] using hcell 0 hpos)
    obtain ⟨b, o, sp⟩ := a
    simp only at hspot
    subst hspot
    refine ⟨b, o, rfl, hblk, fun j u hu => ?_⟩
    rw [List.getElem?_map, List.getElem?_take] at hu
    split at hu
    · next hj =>
      have h1 := hcell j (by omega)
      have h2 : (⟨b, o, none⟩ : Addr).add j = ⟨b, o + j, none⟩ := by unfold Addr.add; split <;> simp_all
      rw [h2] at h1
      rw [h1, ← hu, List.getD_eq_getElem?_getD, List.getElem?_eq_getElem (by omega)]
      rfl
    · cases hu

theorem open_row {t e : TypeId} {k : IntKind} (hk : k = .u8) {v : Value} {d : DataW H} {ps : List MemPlace} {r : Reach} {b0 : Nat} (ht : P.underlying t = some (.slice e)) (he : P.underlying e = some (.int k)) (hc : P.cellsOf e = 1)
    (hval : Value.okWide P w r b0 t v) (hd : DataW.Trod enc P w 0 (fun _ => true) true t v d ps) (hlt : ∀ x ∈ ps, x.block < w.heap.size) :
    ∃ (A : Option Addr) (n c : Nat) (l : List Nat), v = .slice A n c ∧ (l.length = n ∧ (A = none → c = 0) ∧ BView w w.heap.size A l ∧ n ≤ c) := by
  subst hk
  obtain ⟨A, n, c, zs, rfl, hn, hA, hnc, _, hwf, hv⟩ := open_ints_arg ht he hc hval hd hlt
  refine ⟨A, n, c, zs.map Int.toNat, rfl, by simpa using hn, hA, ⟨?_, ?_⟩, hnc⟩
  · intro x hx
    obtain ⟨z, hz, rfl⟩ := List.mem_map.1 hx
    have := hwf z hz
    simp [Lit.wf, IntKind.min, IntKind.max, IntKind.signed, IntKind.bits] at this
    omega
  · have e : (zs.map Int.toNat).map u8v = zs.map (.int .u8) := by
      rw [List.map_map]
      refine List.map_congr_left fun z hz => ?_
      have := hwf z hz
      simp [Lit.wf, IntKind.min, IntKind.max, IntKind.signed, IntKind.bits] at this
      simp [u8v, Int.toNat_of_nonneg this.1]
    rw [e]
    exact hv
end

section
variable {H : Type} {enc : TypeId × Value → H} {P : Program} {w : World}
/-- An argument that is a slice of uint64. -/
theorem open_u64s {t e : TypeId} {v : Value} {d : DataW H} {ps : List MemPlace} {r : Reach} {b0 : Nat} (ht : P.underlying t = some (.slice e)) (he : P.underlying e = some (.int .u64)) (hc : P.cellsOf e = 1)
    (hval : Value.okWide P w r b0 t v) (hd : DataW.Trod enc P w 0 (fun _ => true) true t v d ps) (hlt : ∀ x ∈ ps, x.block < w.heap.size) :
    ∃ (A : Option Addr) (n c : Nat) (l : List Nat), v = .slice A n c ∧ l.length = n ∧ (A = none → c = 0) ∧ (∀ x ∈ l, U64 x) ∧ View w w.heap.size A (l.map u64v) ∧ n ≤ c := by
  obtain ⟨A, n, c, zs, rfl, hn, hA, hnc, _, hwf, hv⟩ := open_ints_arg ht he hc hval hd hlt
  refine ⟨A, n, c, zs.map Int.toNat, rfl, by simpa using hn, hA, ?_, ?_, hnc⟩
  · intro x hx
    obtain ⟨z, hz, rfl⟩ := List.mem_map.1 hx
    have := wf_u64 (hwf z hz)
    exact U64.of (by omega)
  · have e : (zs.map Int.toNat).map u64v = zs.map (.int .u64) := by
      rw [List.map_map]
      refine List.map_congr_left fun z hz => ?_
      have := wf_u64 (hwf z hz)
      simp [u64v, Int.toNat_of_nonneg this.1]
    rw [e]
    exact hv
end

section
variable {H : Type} {enc : TypeId × Value → H} {P : Program} {w : World}
/-- An argument that is a slice of whatever: its elements' cells, each of which reads as its type. -/
theorem open_elems {t e : TypeId} {v : Value} {d : DataW H} {ps : List MemPlace} {r : Reach} {b0 : Nat} (ht : P.underlying t = some (.slice e)) (hc0 : 0 < P.cellsOf e)
    (hval : Value.okWide P w r b0 t v) (hd : DataW.Trod enc P w 0 (fun _ => true) true t v d ps) (hlt : ∀ x ∈ ps, x.block < w.heap.size) :
    ∃ (A : Option Addr) (n c : Nat) (es : List (List Value)), v = .slice A n c ∧ es.length = n ∧ (A = none → c = 0) ∧ n ≤ c ∧ c ≤ maxLen ∧ View w w.heap.size A es.flatten ∧
      ∀ cs ∈ es, cs.length = P.cellsOf e ∧ ∃ m x, DataW.trod enc P w 0 (fun _ => true) true m e cs = some x ∧ ∀ p ∈ x.2, p.block < w.heap.size := by
  obtain ⟨A, n, c, rfl⟩ := okWide_slice ht hval
  obtain ⟨fuel, hf⟩ := hd
  rcases Go.Deep.open_slice ht hf with ⟨hcs, _⟩ | ⟨a, len, cap, m, k, D, Pl, hcs, _, hl, hm, hmm, hx, hi⟩
  · simp [Value.cells] at hcs
    obtain ⟨rfl, rfl, rfl⟩ := hcs
    exact ⟨none, 0, 0, [], rfl, rfl, fun _ => rfl, Nat.le_refl _, by simp [maxLen], View.nil_, by simp⟩
  · simp [Value.cells] at hcs
    obtain ⟨rfl, rfl, rfl⟩ := hcs
    have hmc : m = c := by simpa using hmm
    subst hmc
    have hch : ∃ f : Nat → List Value, ∀ i, i < m → w.cells? 0 (a.add (i * P.cellsOf e)) (P.cellsOf e) = some (f i) ∧ DataW.trod enc P w 0 (fun _ => true) true k e (f i) = some (D i, Pl i) := by
      refine ⟨fun i => if h : i < m then (hi i h).choose else [], fun i him => ?_⟩
      simp only [him, dif_pos]
      exact (hi i him).choose_spec
    obtain ⟨f, hfi⟩ := hch
    have hps : ps = MemPlace.row a (m * P.cellsOf e) ++ (List.range m).flatMap Pl := by injection hx
    refine ⟨some a, n, m, (List.range n).map f, rfl, by simp, (by intro h; cases h), hl, hm, ?_, ?_⟩
    · intro hne
      have hn : 0 < n := by
        rcases n with _ | n
        · simp at hne
        · omega
      have hblk : a.block < w.heap.size := by
        have hpos : 0 < m * P.cellsOf e := Nat.mul_pos (by omega) hc0
        have := hlt (MemPlace.cell a.block a.off) (by rw [hps]; exact List.mem_append_left _ (row_mem a _ hpos))
        simpa [MemPlace.block] using this
      obtain ⟨_, hlen0, hat0⟩ := World.cells?_some (hfi 0 (by omega)).1
      have hspot : a.spot = none := by
        have h0 := hat0 0 hc0
        rw [List.getElem?_eq_getElem (by omega)] at h0
        exact World.cell?_spot (by simpa [Addr.add] using h0)
      obtain ⟨b, o, sp⟩ := a
      simp only at hspot
      subst hspot
      have hadd : ∀ j, (⟨b, o, none⟩ : Addr).add j = ⟨b, o + j, none⟩ := fun j => by
        unfold Addr.add
        split
        · next h0 => subst h0; rfl
        · rfl
      refine ⟨b, o, rfl, hblk, ?_⟩
      have key : ∀ n', n' ≤ m → ∀ j u, (((List.range n').map f).flatten)[j]? = some u → w.cell? ⟨b, o + j, none⟩ = some u := by
        intro n'
        induction n' with
        | zero => intro _ j u hu; simp at hu
        | succ n' ih =>
          intro hn' j u hu
          have hflen : (((List.range n').map f).flatten).length = n' * P.cellsOf e := by
            rw [List.length_flatten, List.map_map]
            have : (List.range n').map (List.length ∘ f) = (List.range n').map (fun _ => P.cellsOf e) := List.map_congr_left fun i hi' => (World.cells?_some (hfi i (by have := List.mem_range.1 hi'; omega)).1).2.1
            rw [this]
            simp [List.map_const', List.sum_replicate_nat]
          rw [List.range_succ, List.map_append, List.flatten_append] at hu
          by_cases hj : j < n' * P.cellsOf e
          · rw [List.getElem?_append_left (by rw [hflen]; exact hj)] at hu
            exact ih (by omega) j u hu
          · rw [List.getElem?_append_right (by rw [hflen]; omega), hflen] at hu
            obtain ⟨_, hl2, hat⟩ := World.cells?_some (hfi n' (by omega)).1
            have hjl : j - n' * P.cellsOf e < P.cellsOf e := by
              rcases Nat.lt_or_ge (j - n' * P.cellsOf e) (P.cellsOf e) with h1 | h1
              · exact h1
              · rw [List.getElem?_eq_none (by simp [hl2]; omega)] at hu; cases hu
            have h2 := hat (j - n' * P.cellsOf e) hjl
            rw [hadd] at h2
            have h3 : (⟨b, o + n' * P.cellsOf e, none⟩ : Addr).add (j - n' * P.cellsOf e) = ⟨b, o + j, none⟩ := by
              unfold Addr.add
              split
              · next h0 => congr 1; omega
              · simp only [Addr.mk.injEq, and_true, true_and]; omega
            rw [h3] at h2
            rw [h2, ← hu]
            simp
      exact key n hl
    · intro cs hcs
      obtain ⟨i, hir, rfl⟩ := List.mem_map.1 hcs
      have hin := List.mem_range.1 hir
      have h1 := hfi i (by omega)
      refine ⟨(World.cells?_some h1.1).2.1, k, _, h1.2, fun p hp => hlt p ?_⟩
      rw [hps]
      exact List.mem_append_right _ (List.mem_flatMap.2 ⟨i, List.mem_range.2 (by omega), hp⟩)

/-- A struct's fields of one cell each. -/
theorem struct_fields {e : TypeId} {fs : Array Field} {m : Nat} {cs : List Value} {x : DataW H × List MemPlace} (he : P.underlying e = some (.struct fs)) (hone : Go.Deep.oneCellFields P fs = true)
    (h : DataW.trod enc P w 0 (fun _ => true) true m e cs = some x) (hC : cs.length = fs.size) :
    ∀ (j : Nat) (f : Field), fs[j]? = some f → ∃ v y k, cs[j]? = some v ∧ DataW.trod enc P w 0 (fun _ => true) true k f.type [v] = some y ∧ ∀ p ∈ y.2, p ∈ x.2 := by
  obtain ⟨ys, n', hn', hy, hlen, hyl, hf⟩ := DataW.trod_struct he h
  intro j f hj
  obtain ⟨ho, hk⟩ := Go.Deep.hone_of hone j f hj
  have hjl : j < fs.size := (Array.getElem?_eq_some_iff.1 hj).1
  have h1 := hf j f hj
  rw [ho, hk, List.drop_eq_getElem_cons (by omega)] at h1
  have hys : ys[j]? = some (ys[j]'(by omega)) := List.getElem?_eq_getElem (by omega)
  refine ⟨cs[j]'(by omega), ys[j]'(by omega), n', List.getElem?_eq_getElem (by omega), h1.trans hys, fun p hp => ?_⟩
  rw [hy]
  exact List.mem_flatMap.2 ⟨_, List.getElem_mem _, hp⟩

theorem list_decode {α β : Type} (f : α → β) (Ok : α → Prop) : ∀ es : List β, (∀ cs ∈ es, ∃ p, cs = f p ∧ Ok p) → ∃ l : List α, es = l.map f ∧ ∀ p ∈ l, Ok p
  | [], _ => ⟨[], rfl, by simp⟩
  | c :: es, h => by
    obtain ⟨p, rfl, hp⟩ := h c (by simp)
    obtain ⟨l, rfl, hl⟩ := list_decode f Ok es fun c hc => h c (by simp [hc])
    exact ⟨p :: l, rfl, fun q hq => by
      rcases List.mem_cons.1 hq with rfl | hq
      · exact hp
      · exact hl q hq⟩
end

/-- A law's row, from its walk. -/
theorem law_said {pk : Bool} {s : ChangeSpec} {tb : TypeId} (fc : String) (f : FuncId) (fn : Func) (wargs : Array Value)
    (hfn : Tryd.pinned.checked.prog.funcNamed fc = some f) (hf : Tryd.pinned.checked.prog.funcs[f]? = some fn)
    (closed : joinedFacts Tryd.pinned.checked.prog f fn s { program := Tryd.pinned.name, sum := Tryd.pinned.sum, func := fc, spec := s.name, plainKeys := pk, apart := false } = true)
    (hinst : fn.isInstance Tryd.pinned.checked.prog "" []) (hwrap : fn.isWrapper Tryd.pinned.checked.prog false "")
    (noInit : Tryd.checked.prog.inits.idxOf? f = none)
    (hp : fn.params.toList.all (fun t => Tryd.checked.prog.readableRec t && decide (t < Tryd.checked.prog.types.size)) = true)
    (hr : fn.resultTypes = #[tb]) (hb : Tryd.checked.prog.underlying tb = some .bool) (hv : s.vars = [])
    (hs : ∀ (H : Type) (ds : List (DataW H)), ds.length = fn.params.toList.length → s.fn H ds = { results := [.lit (.bool true)], args := ds })
    (witness : ∀ (os : Os) (H : Type) (enc : TypeId × Value → H), ∃ (w : World) (tape : Tape) (i : Input), w.os = os ∧ (w.forCall tape i).Shaped Tryd.checked.prog ∧ i.vars = [] ∧ Input.okWide Tryd.checked.prog (w.forCall tape i) .any w.heap.size f i ∧
      s.pre6 enc Tryd.checked.prog fn [] false (w.forCall tape i).memory i.args ∧ ({} : Assume).holds Tryd.checked.prog (lone (Frame.enter Tryd.checked.prog f i.args .normal) [] (w.forCall tape i)))
    (walk : ∀ (H : Type) (enc : TypeId × Value → H) (W : World) (base : Nat) (args : Array Value) (ds : List (DataW H)) (ps : List MemPlace),
      (∀ (j : Nat) t v, fn.params[j]? = some t → args[j]? = some v → Value.okWide Tryd.prog W .any base t v) →
      DataW.TrodAll enc Tryd.prog W 0 (fun _ => true) true fn.params.toList args.toList ds ps →
      (∀ x ∈ ps, x.block < W.heap.size) → W.noneFrozen ps →
      (DataW.weightsEach Tryd.prog fn.params.toList ds).all (· ≤ reachBytes) = true →
      Calls Tryd.prog f args W fun e W' => e = .returned (.bool true) ∧ Below W.heap.size W W') :
    ({ program := Tryd.pinned.name, sum := Tryd.pinned.sum, func := fc, spec := s.name, plainKeys := pk, apart := false } : OpenClaim).holds Tryd.pinned (OpenSpec.ofChange s) :=
  OpenClaim.holds_of_wide f fn rfl rfl rfl rfl rfl rfl rfl ⟨rfl, rfl, rfl, rfl, rfl⟩ rfl rfl rfl rfl rfl hfn hf closed hinst hwrap
    (fun os started H enc _ => lift_law (C := Tryd.checked) own_ started noInit hf (witness os H enc) laidOut_ hp hr hb hv (hs H) (walk H enc))
end Go.Proofs.YtocnmcndcdncmaaDoor
