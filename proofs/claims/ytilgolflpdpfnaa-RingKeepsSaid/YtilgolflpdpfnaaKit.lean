/- A generic last step: a law whose call returns true and leaves all old memory as it was meets its row. Conditions: none of its own. -/
import Derived.Test.YtilgolflpdpfnaaRows
import Derived.Test.YtilgolflpdpfnaaMem
import Derived.Test.YtilgolflpdpfnaaMath
import Derived.WalkKit
import Derived.ProofKit
import Derived.OpenShut
import Derived.ShutString
import Derived.SizedLaws
import Derived.Deep.Slices
import Derived.Deep.Fields
import Derived.Lib.Hide
import Derived.Lib.SmallJoins
namespace Go.Proofs.Ytilgolflpdpfnaa
open Go.ChangeShapes Go.WideShapes Go.ChangeAt Go.RowKit

theorem own_ : ownKnob Try.prog.godebug = none := by kernel_rfl
theorem laidOut_ : laidOutB Try.prog = true := by kernel_rfl

section
variable {H : Type} {enc : TypeId × Value → H} {P : Program}

theorem trodAll_below (hl : laidOutB P = true) {W W' : World} (hb : Below W.heap.size W W') :
    ∀ (ts : List TypeId) (vs : List Value) (ds : List (DataW H)) (ps : List MemPlace), ts.all (fun t => P.readableRec t && decide (t < P.types.size)) = true →
      DataW.TrodAll enc P W 0 (fun _ => true) true ts vs ds ps → (∀ x ∈ ps, x.block < W.heap.size) →
      DataW.TrodAll enc P W' 0 (fun b => decide (b < W.heap.size)) true ts vs ds ps := by
  intro ts
  induction ts with
  | nil =>
    intro vs ds ps _ h _
    cases vs <;> cases ds <;> simp_all [DataW.TrodAll]
  | cons t ts ih =>
    intro vs ds ps hp h hlt
    obtain ⟨v, vs', d, ds', p, q, rfl, rfl, rfl, h0, hr⟩ := trodAll_cons h
    simp only [List.all_cons, Bool.and_eq_true, decide_eq_true_eq] at hp
    exact trodAll_cons_mk (Below.trod hl hp.1.1 hp.1.2 h0 hb (fun x hx => hlt x (by simp [hx])))
      (ih _ _ _ hp.2 hr (fun x hx => hlt x (by simp [hx])))

theorem trodAll_length {W : World} {base : Nat} {spare : Nat → Bool} {held : Bool} :
    ∀ (ts : List TypeId) (vs : List Value) (ds : List (DataW H)) (ps : List MemPlace), DataW.TrodAll enc P W base spare held ts vs ds ps → vs.length = ts.length ∧ ds.length = ts.length := by
  intro ts
  induction ts with
  | nil => intro vs ds ps h; cases vs <;> cases ds <;> simp_all [DataW.TrodAll]
  | cons t ts ih =>
    intro vs ds ps h
    obtain ⟨v, vs', d, ds', p, q, rfl, rfl, rfl, h0, hr⟩ := trodAll_cons h
    have := ih _ _ _ hr
    simp [this]

theorem lift_law {C : Checked} {os : Os} {f : FuncId} {fn : Func} {s : ChangeSpec} {tb : TypeId}
    (own : ownKnob C.prog.godebug = none) (started : os.Started) (noInit : C.prog.inits.idxOf? f = none) (hfn : C.prog.funcs[f]? = some fn)
    (witness : ∃ (w : World) (tape : Tape) (i : Input), w.os = os ∧ (w.forCall tape i).Shaped C.prog ∧ i.vars = [] ∧ Input.okWide C.prog (w.forCall tape i) .any w.heap.size f i ∧
      s.pre6 enc C.prog fn [] false (w.forCall tape i).memory i.args ∧ ({} : Assume).holds C.prog (lone (Frame.enter C.prog f i.args .normal) [] (w.forCall tape i)))
    (hl : laidOutB C.prog = true) (hp : fn.params.toList.all (fun t => C.prog.readableRec t && decide (t < C.prog.types.size)) = true)
    (hr : fn.resultTypes = #[tb]) (hb : C.prog.underlying tb = some .bool) (hv : s.vars = [])
    (hs : ∀ ds : List (DataW H), ds.length = fn.params.toList.length → s.fn H ds = { results := [.lit (.bool true)], args := ds })
    (walk : ∀ (W : World) (base : Nat) (args : Array Value) (ds : List (DataW H)) (ps : List MemPlace),
      (∀ (j : Nat) t v, fn.params[j]? = some t → args[j]? = some v → Value.okWide C.prog W .any base t v) →
      DataW.TrodAll enc C.prog W 0 (fun _ => true) true fn.params.toList args.toList ds ps →
      (∀ x ∈ ps, x.block < W.heap.size) → W.noneFrozen ps →
      (DataW.weightsEach C.prog fn.params.toList ds).all (· ≤ reachBytes) = true →
      Calls C.prog f args W fun e W' => e = .returned (.bool true) ∧ Below W.heap.size W W') :
    ReturnsInHanded {} C os f .any (s.pre6 enc C.prog fn [] false) (s.post enc C.prog fn false true false false) := by
  refine returnsInHanded_of_change_sized (C := C) own started noInit hfn witness ?_
  intro W base args ds gs before hval hW _ hsz _
  have hW' := hW
  obtain ⟨p, q, hA, hV, rfl, hfz, hnd⟩ := hW
  rw [hv] at hV
  obtain ⟨rfl, rfl⟩ := trodVars_none hV
  simp only [List.append_nil] at hW' hfz
  have hlt : ∀ x ∈ p, x.block < W.heap.size := fun x hx => by simpa using hW'.lt x hx
  have hsz' : (DataW.weightsEach C.prog fn.params.toList ds).all (· ≤ reachBytes) = true := by
    have hvt : s.plain.varTypes C.prog = [] := by
      simp [DataSpec.varTypes, ChangeSpec.plain, hv]
    rw [hvt] at hsz
    simpa using hsz
  have hlen := (trodAll_length _ _ _ _ hA).2
  refine (walk W base args ds p hval hA hlt hfz hsz').mono fun e W' ⟨he, hbel⟩ => ?_
  subst he
  refine ⟨_, rfl, ds, [], p, [], p, [], hW', ?_, ?_, ?_, hbel.frame _, fun h => by cases h⟩
  · simp only [List.append_nil]
    rw [hs ds hlen, hr]
    exact trodAll_cons_mk (shut_bool hb true) trodAll_mk0
  · simp only [List.append_nil]
    rw [hs ds hlen]
    exact trodAll_below hl hbel _ _ _ _ hp hA hlt
  · simp only [List.append_nil]
    rw [hs ds hlen, hv]
    exact rfl
end

section
variable {H : Type} {enc : TypeId × Value → H} {P : Program} {w : World}
end

section
variable {H : Type} {enc : TypeId × Value → H} {P : Program} {w : World}
end

section
variable {H : Type} {enc : TypeId × Value → H} {P : Program} {w : World}
theorem list_decode {α β : Type} (f : α → β) (Ok : α → Prop) : ∀ es : List β, (∀ cs ∈ es, ∃ p, cs = f p ∧ Ok p) → ∃ l : List α, es = l.map f ∧ ∀ p ∈ l, Ok p
  | [], _ => ⟨[], rfl, by simp⟩
  | c :: es, h => by
    obtain ⟨p, rfl, hp⟩ := h c (by simp)
    obtain ⟨l, rfl, hl⟩ := list_decode f Ok es fun c hc => h c (by simp [hc])
    exact ⟨p :: l, rfl, fun q hq => by
      rcases List.mem_cons.1 hq with rfl | hq
      · exact hp
      · exact hl q hq⟩
end

/-- A law's row, from its walk. -/
theorem law_said {pk : Bool} {s : ChangeSpec} {tb : TypeId} (fc : String) (f : FuncId) (fn : Func) (wargs : Array Value)
    (hfn : Try.pinned.checked.prog.funcNamed fc = some f) (hf : Try.pinned.checked.prog.funcs[f]? = some fn)
    (closed : joinedFacts Try.pinned.checked.prog f fn s { program := Try.pinned.name, sum := Try.pinned.sum, func := fc, spec := s.name, plainKeys := pk, apart := false } = true)
    (hinst : fn.isInstance Try.pinned.checked.prog "" []) (hwrap : fn.isWrapper Try.pinned.checked.prog false "")
    (noInit : Try.checked.prog.inits.idxOf? f = none)
    (hp : fn.params.toList.all (fun t => Try.checked.prog.readableRec t && decide (t < Try.checked.prog.types.size)) = true)
    (hr : fn.resultTypes = #[tb]) (hb : Try.checked.prog.underlying tb = some .bool) (hv : s.vars = [])
    (hs : ∀ (H : Type) (ds : List (DataW H)), ds.length = fn.params.toList.length → s.fn H ds = { results := [.lit (.bool true)], args := ds })
    (witness : ∀ (os : Os) (H : Type) (enc : TypeId × Value → H), ∃ (w : World) (tape : Tape) (i : Input), w.os = os ∧ (w.forCall tape i).Shaped Try.checked.prog ∧ i.vars = [] ∧ Input.okWide Try.checked.prog (w.forCall tape i) .any w.heap.size f i ∧
      s.pre6 enc Try.checked.prog fn [] false (w.forCall tape i).memory i.args ∧ ({} : Assume).holds Try.checked.prog (lone (Frame.enter Try.checked.prog f i.args .normal) [] (w.forCall tape i)))
    (walk : ∀ (H : Type) (enc : TypeId × Value → H) (W : World) (base : Nat) (args : Array Value) (ds : List (DataW H)) (ps : List MemPlace),
      (∀ (j : Nat) t v, fn.params[j]? = some t → args[j]? = some v → Value.okWide Try.prog W .any base t v) →
      DataW.TrodAll enc Try.prog W 0 (fun _ => true) true fn.params.toList args.toList ds ps →
      (∀ x ∈ ps, x.block < W.heap.size) → W.noneFrozen ps →
      (DataW.weightsEach Try.prog fn.params.toList ds).all (· ≤ reachBytes) = true →
      Calls Try.prog f args W fun e W' => e = .returned (.bool true) ∧ Below W.heap.size W W') :
    ({ program := Try.pinned.name, sum := Try.pinned.sum, func := fc, spec := s.name, plainKeys := pk, apart := false } : OpenClaim).holds Try.pinned (OpenSpec.ofChange s) :=
  OpenClaim.holds_of_wide f fn rfl rfl rfl rfl rfl rfl rfl ⟨rfl, rfl, rfl, rfl, rfl⟩ rfl rfl rfl rfl rfl hfn hf closed hinst hwrap
    (fun os started H enc _ => lift_law (C := Try.checked) own_ started noInit hf (witness os H enc) laidOut_ hp hr hb hv (hs H) (walk H enc))
end Go.Proofs.Ytilgolflpdpfnaa
