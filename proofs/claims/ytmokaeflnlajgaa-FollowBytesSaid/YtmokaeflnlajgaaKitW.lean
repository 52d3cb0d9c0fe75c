
/- The generic last step for a row whose law calls a function value. Conditions: none of its own. -/
import Derived.Test.YtmokaeflnlajgaaKit
namespace Go.Proofs.Ytmokaeflnlajgaa
open Go.ChangeShapes Go.WideShapes Go.ChangeAt Go.RowKit
/-- A law's row, from its walk. -/
theorem law_saidW (uf rc : Bool) {pk : Bool} {s : ChangeSpec} {tb : TypeId} (fc : String) (f : FuncId) (fn : Func) (wargs : Array Value)
    (hfn : Try.pinned.checked.prog.funcNamed fc = some f) (hf : Try.pinned.checked.prog.funcs[f]? = some fn)
    (closed : joinedFacts Try.pinned.checked.prog f fn s { program := Try.pinned.name, sum := Try.pinned.sum, func := fc, spec := s.name, plainKeys := pk, apart := false, unfollowed := uf, recurses := rc } = true)
    (hinst : fn.isInstance Try.pinned.checked.prog "" []) (hwrap : fn.isWrapper Try.pinned.checked.prog false "")
    (noInit : Try.checked.prog.inits.idxOf? f = none)
    (hp : fn.params.toList.all (fun t => Try.checked.prog.readableRec t && decide (t < Try.checked.prog.types.size)) = true)
    (hr : fn.resultTypes = #[tb]) (hb : Try.checked.prog.underlying tb = some .bool) (hv : s.vars = [])
    (hs : ∀ (H : Type) (ds : List (DataW H)), ds.length = fn.params.toList.length → s.fn H ds = { results := [.lit (.bool true)], args := ds })
    (witness : ∀ (os : Os) (H : Type) (enc : TypeId × Value → H), ∃ (w : World) (tape : Tape) (i : Input), w.os = os ∧ (w.forCall tape i).Shaped Try.checked.prog ∧ i.vars = [] ∧ Input.okWide Try.checked.prog (w.forCall tape i) .any w.heap.size f i ∧
      s.pre6 enc Try.checked.prog fn [] false (w.forCall tape i).memory i.args ∧ ({} : Assume).holds Try.checked.prog (lone (Frame.enter Try.checked.prog f i.args .normal) [] (w.forCall tape i)))
    (walk : ∀ (H : Type) (enc : TypeId × Value → H) (W : World) (base : Nat) (args : Array Value) (ds : List (DataW H)) (ps : List MemPlace),
      (∀ (j : Nat) t v, fn.params[j]? = some t → args[j]? = some v → Value.okWide Try.prog W .any base t v) →
      DataW.TrodAll enc Try.prog W 0 (fun _ => true) true fn.params.toList args.toList ds ps →
      (∀ x ∈ ps, x.block < W.heap.size) → W.noneFrozen ps →
      (DataW.weightsEach Try.prog fn.params.toList ds).all (· ≤ reachBytes) = true →
      Calls Try.prog f args W fun e W' => e = .returned (.bool true) ∧ Below W.heap.size W W') :
    ({ program := Try.pinned.name, sum := Try.pinned.sum, func := fc, spec := s.name, plainKeys := pk, apart := false, unfollowed := uf, recurses := rc } : OpenClaim).holds Try.pinned (OpenSpec.ofChange s) :=
  OpenClaim.holds_of_wide f fn rfl rfl rfl rfl rfl rfl rfl ⟨rfl, rfl, rfl, rfl, rfl⟩ rfl rfl rfl rfl rfl hfn hf closed hinst hwrap
    (fun os started H enc _ => lift_law (C := Try.checked) own_ started noInit hf (witness os H enc) laidOut_ hp hr hb hv (hs H) (walk H enc))
end Go.Proofs.Ytmokaeflnlajgaa
