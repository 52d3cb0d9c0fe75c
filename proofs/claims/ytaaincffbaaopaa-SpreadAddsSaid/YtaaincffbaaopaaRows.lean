/-
  No cell of these rows narrows 'for every input' (looked for: loops, veiled, ifaces, maps, wideKeys, modest, calm, conditions, laid).
  DERIVED. THE GIVEN ROWS OF THIS SEAT. 12 by the template 'for every input the law returns true; each argument reads behind the call as it read before'; 0 by the template 'total and deterministic' (their statements: YtaaincffbaaopaaTotals.lean).
  GIVEN WITH THE SEED: the statements are not yours to turn. If you find one false, say at which input.
  Laid BY PROGRAM, IN A SANDBOX (cutbox-rows.mjs): the forced cells as the released guide's own fill.sh prints them over the translation 016fea3c7f584f4b… (all of the seat's roots in one cut). By AI agents, Wed Nov 11 2026. No macro, syntax, notation, axiom, sorry.
-/
import Derived.Test.YtaaincffbaaopaaChecked
import GoSem.Claim
import GoSem.ClaimJoined
import GoSem.ClaimMapViews
import Derived.JoinedTies
import Derived.KernelRfl
namespace Go.Proofs.Ytaaincffbaaopaa
/- THE CELL 'sum', in the pinned program and in every row, IS THE sha256 OF THE DUMP (.gsa) THAT YtaaincffbaaopaaProg.lean LOADS. Nothing in Lean hashes anything: it is a label: what it is worth is what the hold of that sum in a sandbox is worth. -/
noncomputable def Try.pinned : Pinned := { name := "ytaaincffbaaopaa", sum := "016fea3c7f584f4bda664c1a4ef5bf71d1ccc8ec0b4be15866fb97131c7b1d88", checked := Try.checked }
namespace Rows
def none {H : Type} : Left H := { results := [], args := [] }

/-- 'counterfoillaw01.OctetPuts': WHATEVER THE INPUT: true; the input reads as it did. -/
def octetPutsSpec : ChangeSpec := { name := "octetPuts", fn := fun _ => fun
  | [d1, d2, d3, d4, d5] => { results := [.lit (.bool true)], args := [d1, d2, d3, d4, d5] }
  | _ => none }
def octetPutsRow : OpenClaim := { program := "ytaaincffbaaopaa", sum := "016fea3c7f584f4bda664c1a4ef5bf71d1ccc8ec0b4be15866fb97131c7b1d88", func := "counterfoil/counterfoillaw01.OctetPuts", spec := "octetPuts", apart := false }
def OctetPutsSaid : Prop := octetPutsRow.holds Try.pinned (OpenSpec.ofChange octetPutsSpec)

/-- ITS FALSE NEIGHBOUR: 'it returns false'. Refute it at one input. -/
def octetPutsWrong : ChangeSpec := { name := "octetPuts", fn := fun _ => fun
  | [d1, d2, d3, d4, d5] => { results := [.lit (.bool false)], args := [d1, d2, d3, d4, d5] }
  | _ => none }
def OctetPutsWrongFalsely : Prop := octetPutsRow.holds Try.pinned (OpenSpec.ofChange octetPutsWrong)

/-- 'counterfoillaw01.OctetBack': WHATEVER THE INPUT: true; the input reads as it did. -/
def octetBackSpec : ChangeSpec := { name := "octetBack", fn := fun _ => fun
  | [d1, d2] => { results := [.lit (.bool true)], args := [d1, d2] }
  | _ => none }
def octetBackRow : OpenClaim := { program := "ytaaincffbaaopaa", sum := "016fea3c7f584f4bda664c1a4ef5bf71d1ccc8ec0b4be15866fb97131c7b1d88", func := "counterfoil/counterfoillaw01.OctetBack", spec := "octetBack", apart := false }
def OctetBackSaid : Prop := octetBackRow.holds Try.pinned (OpenSpec.ofChange octetBackSpec)

/-- ITS FALSE NEIGHBOUR: 'it returns false'. Refute it at one input. -/
def octetBackWrong : ChangeSpec := { name := "octetBack", fn := fun _ => fun
  | [d1, d2] => { results := [.lit (.bool false)], args := [d1, d2] }
  | _ => none }
def OctetBackWrongFalsely : Prop := octetBackRow.holds Try.pinned (OpenSpec.ofChange octetBackWrong)

/-- 'counterfoillaw02.SumSteps': WHATEVER THE INPUT: true; the input reads as it did. -/
def sumStepsSpec : ChangeSpec := { name := "sumSteps", fn := fun _ => fun
  | [d1, d2, d3, d4] => { results := [.lit (.bool true)], args := [d1, d2, d3, d4] }
  | _ => none }
def sumStepsRow : OpenClaim := { program := "ytaaincffbaaopaa", sum := "016fea3c7f584f4bda664c1a4ef5bf71d1ccc8ec0b4be15866fb97131c7b1d88", func := "counterfoil/counterfoillaw02.SumSteps", spec := "sumSteps", apart := false }
def SumStepsSaid : Prop := sumStepsRow.holds Try.pinned (OpenSpec.ofChange sumStepsSpec)

/-- ITS FALSE NEIGHBOUR: 'it returns false'. Refute it at one input. -/
def sumStepsWrong : ChangeSpec := { name := "sumSteps", fn := fun _ => fun
  | [d1, d2, d3, d4] => { results := [.lit (.bool false)], args := [d1, d2, d3, d4] }
  | _ => none }
def SumStepsWrongFalsely : Prop := sumStepsRow.holds Try.pinned (OpenSpec.ofChange sumStepsWrong)

/-- 'counterfoillaw02.SumKeeps': WHATEVER THE INPUT: true; the input reads as it did. -/
def sumKeepsSpec : ChangeSpec := { name := "sumKeeps", fn := fun _ => fun
  | [d1, d2, d3] => { results := [.lit (.bool true)], args := [d1, d2, d3] }
  | _ => none }
def sumKeepsRow : OpenClaim := { program := "ytaaincffbaaopaa", sum := "016fea3c7f584f4bda664c1a4ef5bf71d1ccc8ec0b4be15866fb97131c7b1d88", func := "counterfoil/counterfoillaw02.SumKeeps", spec := "sumKeeps", apart := false }
def SumKeepsSaid : Prop := sumKeepsRow.holds Try.pinned (OpenSpec.ofChange sumKeepsSpec)

/-- ITS FALSE NEIGHBOUR: 'it returns false'. Refute it at one input. -/
def sumKeepsWrong : ChangeSpec := { name := "sumKeeps", fn := fun _ => fun
  | [d1, d2, d3] => { results := [.lit (.bool false)], args := [d1, d2, d3] }
  | _ => none }
def SumKeepsWrongFalsely : Prop := sumKeepsRow.holds Try.pinned (OpenSpec.ofChange sumKeepsWrong)

/-- 'counterfoillaw12.CookieRestores': WHATEVER THE INPUT: true; the input reads as it did. -/
def cookieRestoresSpec : ChangeSpec := { name := "cookieRestores", fn := fun _ => fun
  | [d1, d2, d3, d4] => { results := [.lit (.bool true)], args := [d1, d2, d3, d4] }
  | _ => none }
def cookieRestoresRow : OpenClaim := { program := "ytaaincffbaaopaa", sum := "016fea3c7f584f4bda664c1a4ef5bf71d1ccc8ec0b4be15866fb97131c7b1d88", func := "counterfoil/counterfoillaw12.CookieRestores", spec := "cookieRestores", apart := false }
def CookieRestoresSaid : Prop := cookieRestoresRow.holds Try.pinned (OpenSpec.ofChange cookieRestoresSpec)

/-- ITS FALSE NEIGHBOUR: 'it returns false'. Refute it at one input. -/
def cookieRestoresWrong : ChangeSpec := { name := "cookieRestores", fn := fun _ => fun
  | [d1, d2, d3, d4] => { results := [.lit (.bool false)], args := [d1, d2, d3, d4] }
  | _ => none }
def CookieRestoresWrongFalsely : Prop := cookieRestoresRow.holds Try.pinned (OpenSpec.ofChange cookieRestoresWrong)

/-- 'counterfoillaw12.CookieTicks': WHATEVER THE INPUT: true; the input reads as it did. -/
def cookieTicksSpec : ChangeSpec := { name := "cookieTicks", fn := fun _ => fun
  | [d1, d2, d3, d4] => { results := [.lit (.bool true)], args := [d1, d2, d3, d4] }
  | _ => none }
def cookieTicksRow : OpenClaim := { program := "ytaaincffbaaopaa", sum := "016fea3c7f584f4bda664c1a4ef5bf71d1ccc8ec0b4be15866fb97131c7b1d88", func := "counterfoil/counterfoillaw12.CookieTicks", spec := "cookieTicks", apart := false }
def CookieTicksSaid : Prop := cookieTicksRow.holds Try.pinned (OpenSpec.ofChange cookieTicksSpec)

/-- ITS FALSE NEIGHBOUR: 'it returns false'. Refute it at one input. -/
def cookieTicksWrong : ChangeSpec := { name := "cookieTicks", fn := fun _ => fun
  | [d1, d2, d3, d4] => { results := [.lit (.bool false)], args := [d1, d2, d3, d4] }
  | _ => none }
def CookieTicksWrongFalsely : Prop := cookieTicksRow.holds Try.pinned (OpenSpec.ofChange cookieTicksWrong)

/-- 'counterfoillaw39.VarintBack': WHATEVER THE INPUT: true; the input reads as it did. -/
def varintBackSpec : ChangeSpec := { name := "varintBack", fn := fun _ => fun
  | [d1, d2, d3] => { results := [.lit (.bool true)], args := [d1, d2, d3] }
  | _ => none }
def varintBackRow : OpenClaim := { program := "ytaaincffbaaopaa", sum := "016fea3c7f584f4bda664c1a4ef5bf71d1ccc8ec0b4be15866fb97131c7b1d88", func := "counterfoil/counterfoillaw39.VarintBack", spec := "varintBack", apart := false }
def VarintBackSaid : Prop := varintBackRow.holds Try.pinned (OpenSpec.ofChange varintBackSpec)

/-- ITS FALSE NEIGHBOUR: 'it returns false'. Refute it at one input. -/
def varintBackWrong : ChangeSpec := { name := "varintBack", fn := fun _ => fun
  | [d1, d2, d3] => { results := [.lit (.bool false)], args := [d1, d2, d3] }
  | _ => none }
def VarintBackWrongFalsely : Prop := varintBackRow.holds Try.pinned (OpenSpec.ofChange varintBackWrong)

/-- 'counterfoillaw39.VarintNumbers': WHATEVER THE INPUT: true; the input reads as it did. -/
def varintNumbersSpec : ChangeSpec := { name := "varintNumbers", fn := fun _ => fun
  | [d1, d2, d3, d4, d5] => { results := [.lit (.bool true)], args := [d1, d2, d3, d4, d5] }
  | _ => none }
def varintNumbersRow : OpenClaim := { program := "ytaaincffbaaopaa", sum := "016fea3c7f584f4bda664c1a4ef5bf71d1ccc8ec0b4be15866fb97131c7b1d88", func := "counterfoil/counterfoillaw39.VarintNumbers", spec := "varintNumbers", apart := false }
def VarintNumbersSaid : Prop := varintNumbersRow.holds Try.pinned (OpenSpec.ofChange varintNumbersSpec)

/-- ITS FALSE NEIGHBOUR: 'it returns false'. Refute it at one input. -/
def varintNumbersWrong : ChangeSpec := { name := "varintNumbers", fn := fun _ => fun
  | [d1, d2, d3, d4, d5] => { results := [.lit (.bool false)], args := [d1, d2, d3, d4, d5] }
  | _ => none }
def VarintNumbersWrongFalsely : Prop := varintNumbersRow.holds Try.pinned (OpenSpec.ofChange varintNumbersWrong)

/-- 'counterfoillaw18.TurnAll': WHATEVER THE INPUT: true; the input reads as it did. -/
def turnAllSpec : ChangeSpec := { name := "turnAll", fn := fun _ => fun
  | [d1, d2] => { results := [.lit (.bool true)], args := [d1, d2] }
  | _ => none }
def turnAllRow : OpenClaim := { program := "ytaaincffbaaopaa", sum := "016fea3c7f584f4bda664c1a4ef5bf71d1ccc8ec0b4be15866fb97131c7b1d88", func := "counterfoil/counterfoillaw18.TurnAll", spec := "turnAll", apart := false }
def TurnAllSaid : Prop := turnAllRow.holds Try.pinned (OpenSpec.ofChange turnAllSpec)

/-- ITS FALSE NEIGHBOUR: 'it returns false'. Refute it at one input. -/
def turnAllWrong : ChangeSpec := { name := "turnAll", fn := fun _ => fun
  | [d1, d2] => { results := [.lit (.bool false)], args := [d1, d2] }
  | _ => none }
def TurnAllWrongFalsely : Prop := turnAllRow.holds Try.pinned (OpenSpec.ofChange turnAllWrong)

/-- 'counterfoillaw18.TurnTwo': WHATEVER THE INPUT: true; the input reads as it did. -/
def turnTwoSpec : ChangeSpec := { name := "turnTwo", fn := fun _ => fun
  | [d1, d2, d3] => { results := [.lit (.bool true)], args := [d1, d2, d3] }
  | _ => none }
def turnTwoRow : OpenClaim := { program := "ytaaincffbaaopaa", sum := "016fea3c7f584f4bda664c1a4ef5bf71d1ccc8ec0b4be15866fb97131c7b1d88", func := "counterfoil/counterfoillaw18.TurnTwo", spec := "turnTwo", apart := false }
def TurnTwoSaid : Prop := turnTwoRow.holds Try.pinned (OpenSpec.ofChange turnTwoSpec)

/-- ITS FALSE NEIGHBOUR: 'it returns false'. Refute it at one input. -/
def turnTwoWrong : ChangeSpec := { name := "turnTwo", fn := fun _ => fun
  | [d1, d2, d3] => { results := [.lit (.bool false)], args := [d1, d2, d3] }
  | _ => none }
def TurnTwoWrongFalsely : Prop := turnTwoRow.holds Try.pinned (OpenSpec.ofChange turnTwoWrong)

/-- 'counterfoillaw43.MeterBounds': WHATEVER THE INPUT: true; the input reads as it did. -/
def meterBoundsSpec : ChangeSpec := { name := "meterBounds", fn := fun _ => fun
  | [d1, d2, d3] => { results := [.lit (.bool true)], args := [d1, d2, d3] }
  | _ => none }
def meterBoundsRow : OpenClaim := { program := "ytaaincffbaaopaa", sum := "016fea3c7f584f4bda664c1a4ef5bf71d1ccc8ec0b4be15866fb97131c7b1d88", func := "counterfoil/counterfoillaw43.MeterBounds", spec := "meterBounds", apart := false }
def MeterBoundsSaid : Prop := meterBoundsRow.holds Try.pinned (OpenSpec.ofChange meterBoundsSpec)

/-- ITS FALSE NEIGHBOUR: 'it returns false'. Refute it at one input. -/
def meterBoundsWrong : ChangeSpec := { name := "meterBounds", fn := fun _ => fun
  | [d1, d2, d3] => { results := [.lit (.bool false)], args := [d1, d2, d3] }
  | _ => none }
def MeterBoundsWrongFalsely : Prop := meterBoundsRow.holds Try.pinned (OpenSpec.ofChange meterBoundsWrong)

/-- 'counterfoillaw41.SpreadAdds': WHATEVER THE INPUT: true; the input reads as it did. -/
def spreadAddsSpec : ChangeSpec := { name := "spreadAdds", fn := fun _ => fun
  | [d1, d2, d3] => { results := [.lit (.bool true)], args := [d1, d2, d3] }
  | _ => none }
def spreadAddsRow : OpenClaim := { program := "ytaaincffbaaopaa", sum := "016fea3c7f584f4bda664c1a4ef5bf71d1ccc8ec0b4be15866fb97131c7b1d88", func := "counterfoil/counterfoillaw41.SpreadAdds", spec := "spreadAdds", apart := false }
def SpreadAddsSaid : Prop := spreadAddsRow.holds Try.pinned (OpenSpec.ofChange spreadAddsSpec)

/-- ITS FALSE NEIGHBOUR: 'it returns false'. Refute it at one input. -/
def spreadAddsWrong : ChangeSpec := { name := "spreadAdds", fn := fun _ => fun
  | [d1, d2, d3] => { results := [.lit (.bool false)], args := [d1, d2, d3] }
  | _ => none }
def SpreadAddsWrongFalsely : Prop := spreadAddsRow.holds Try.pinned (OpenSpec.ofChange spreadAddsWrong)

/- THE SECOND FORM. 'bulk': how many values and letters a reading holds, each counted each time it is reached (what is shared counts as often as it is met; a slice's spare places count too). A statement '..UptoSaid' is the law's where the arguments, and the package variables that the reading takes, are together of bulk at most 1048576: NARROWER than '..Said'. Prove '..Said' where nothing that the law and all that it calls make is longer than what came in: it says more and counts as full. Else prove '..UptoSaid'. A law counts once. -/
mutual
def uptoBulk {H : Type} : DataW H → Nat
  | .lit (.string bytes) => bytes.length + 1
  | .lit _ => 1
  | .nil => 1
  | .ptr d => uptoBulk d + 1
  | .slice elems spare => uptoBulkAll elems + uptoBulkAll spare + 1
  | .agg parts => uptoBulkAll parts + 1
  | .iface _ d => uptoBulk d + 1
  | .map entries => uptoBulkEntries entries + 1
  | .held _ => 1
def uptoBulkAll {H : Type} : List (DataW H) → Nat
  | [] => 0
  | d :: r => uptoBulk d + uptoBulkAll r
def uptoBulkEntries {H : Type} : List (Lit × DataW H) → Nat
  | [] => 0
  | x :: r => uptoBulkEntry x + uptoBulkEntries r
def uptoBulkEntry {H : Type} : Lit × DataW H → Nat
  | (.string bytes, d) => bytes.length + uptoBulk d + 1
  | (_, d) => uptoBulk d + 1
 end
def uptoSmall : (H : Type) → List (DataW H) → Bool := fun _ ds => decide (uptoBulkAll ds ≤ 1048576)
def OpenSpec.upto (s : _root_.Go.ChangeSpec) : _root_.Go.OpenSpec := { _root_.Go.OpenSpec.ofChange s with cond := some uptoSmall }

/-- 'counterfoillaw01.OctetPuts', WHERE WHAT IT READS IS OF BULK AT MOST 1048576: true; the input reads as it did. -/
def octetPutsUptoRow : OpenClaim := { program := "ytaaincffbaaopaa", sum := "016fea3c7f584f4bda664c1a4ef5bf71d1ccc8ec0b4be15866fb97131c7b1d88", func := "counterfoil/counterfoillaw01.OctetPuts", spec := "octetPuts", apart := false, narrowed := true }
def OctetPutsUptoSaid : Prop := octetPutsUptoRow.holds Try.pinned (OpenSpec.upto octetPutsSpec)

/-- 'counterfoillaw01.OctetBack', WHERE WHAT IT READS IS OF BULK AT MOST 1048576: true; the input reads as it did. -/
def octetBackUptoRow : OpenClaim := { program := "ytaaincffbaaopaa", sum := "016fea3c7f584f4bda664c1a4ef5bf71d1ccc8ec0b4be15866fb97131c7b1d88", func := "counterfoil/counterfoillaw01.OctetBack", spec := "octetBack", apart := false, narrowed := true }
def OctetBackUptoSaid : Prop := octetBackUptoRow.holds Try.pinned (OpenSpec.upto octetBackSpec)

/-- 'counterfoillaw02.SumSteps', WHERE WHAT IT READS IS OF BULK AT MOST 1048576: true; the input reads as it did. -/
def sumStepsUptoRow : OpenClaim := { program := "ytaaincffbaaopaa", sum := "016fea3c7f584f4bda664c1a4ef5bf71d1ccc8ec0b4be15866fb97131c7b1d88", func := "counterfoil/counterfoillaw02.SumSteps", spec := "sumSteps", apart := false, narrowed := true }
def SumStepsUptoSaid : Prop := sumStepsUptoRow.holds Try.pinned (OpenSpec.upto sumStepsSpec)

/-- 'counterfoillaw02.SumKeeps', WHERE WHAT IT READS IS OF BULK AT MOST 1048576: true; the input reads as it did. -/
def sumKeepsUptoRow : OpenClaim := { program := "ytaaincffbaaopaa", sum := "016fea3c7f584f4bda664c1a4ef5bf71d1ccc8ec0b4be15866fb97131c7b1d88", func := "counterfoil/counterfoillaw02.SumKeeps", spec := "sumKeeps", apart := false, narrowed := true }
def SumKeepsUptoSaid : Prop := sumKeepsUptoRow.holds Try.pinned (OpenSpec.upto sumKeepsSpec)

/-- 'counterfoillaw12.CookieRestores', WHERE WHAT IT READS IS OF BULK AT MOST 1048576: true; the input reads as it did. -/
def cookieRestoresUptoRow : OpenClaim := { program := "ytaaincffbaaopaa", sum := "016fea3c7f584f4bda664c1a4ef5bf71d1ccc8ec0b4be15866fb97131c7b1d88", func := "counterfoil/counterfoillaw12.CookieRestores", spec := "cookieRestores", apart := false, narrowed := true }
def CookieRestoresUptoSaid : Prop := cookieRestoresUptoRow.holds Try.pinned (OpenSpec.upto cookieRestoresSpec)

/-- 'counterfoillaw12.CookieTicks', WHERE WHAT IT READS IS OF BULK AT MOST 1048576: true; the input reads as it did. -/
def cookieTicksUptoRow : OpenClaim := { program := "ytaaincffbaaopaa", sum := "016fea3c7f584f4bda664c1a4ef5bf71d1ccc8ec0b4be15866fb97131c7b1d88", func := "counterfoil/counterfoillaw12.CookieTicks", spec := "cookieTicks", apart := false, narrowed := true }
def CookieTicksUptoSaid : Prop := cookieTicksUptoRow.holds Try.pinned (OpenSpec.upto cookieTicksSpec)

/-- 'counterfoillaw39.VarintBack', WHERE WHAT IT READS IS OF BULK AT MOST 1048576: true; the input reads as it did. -/
def varintBackUptoRow : OpenClaim := { program := "ytaaincffbaaopaa", sum := "016fea3c7f584f4bda664c1a4ef5bf71d1ccc8ec0b4be15866fb97131c7b1d88", func := "counterfoil/counterfoillaw39.VarintBack", spec := "varintBack", apart := false, narrowed := true }
def VarintBackUptoSaid : Prop := varintBackUptoRow.holds Try.pinned (OpenSpec.upto varintBackSpec)

/-- 'counterfoillaw39.VarintNumbers', WHERE WHAT IT READS IS OF BULK AT MOST 1048576: true; the input reads as it did. -/
def varintNumbersUptoRow : OpenClaim := { program := "ytaaincffbaaopaa", sum := "016fea3c7f584f4bda664c1a4ef5bf71d1ccc8ec0b4be15866fb97131c7b1d88", func := "counterfoil/counterfoillaw39.VarintNumbers", spec := "varintNumbers", apart := false, narrowed := true }
def VarintNumbersUptoSaid : Prop := varintNumbersUptoRow.holds Try.pinned (OpenSpec.upto varintNumbersSpec)

/-- 'counterfoillaw18.TurnAll', WHERE WHAT IT READS IS OF BULK AT MOST 1048576: true; the input reads as it did. -/
def turnAllUptoRow : OpenClaim := { program := "ytaaincffbaaopaa", sum := "016fea3c7f584f4bda664c1a4ef5bf71d1ccc8ec0b4be15866fb97131c7b1d88", func := "counterfoil/counterfoillaw18.TurnAll", spec := "turnAll", apart := false, narrowed := true }
def TurnAllUptoSaid : Prop := turnAllUptoRow.holds Try.pinned (OpenSpec.upto turnAllSpec)

/-- 'counterfoillaw18.TurnTwo', WHERE WHAT IT READS IS OF BULK AT MOST 1048576: true; the input reads as it did. -/
def turnTwoUptoRow : OpenClaim := { program := "ytaaincffbaaopaa", sum := "016fea3c7f584f4bda664c1a4ef5bf71d1ccc8ec0b4be15866fb97131c7b1d88", func := "counterfoil/counterfoillaw18.TurnTwo", spec := "turnTwo", apart := false, narrowed := true }
def TurnTwoUptoSaid : Prop := turnTwoUptoRow.holds Try.pinned (OpenSpec.upto turnTwoSpec)

/-- 'counterfoillaw43.MeterBounds', WHERE WHAT IT READS IS OF BULK AT MOST 1048576: true; the input reads as it did. -/
def meterBoundsUptoRow : OpenClaim := { program := "ytaaincffbaaopaa", sum := "016fea3c7f584f4bda664c1a4ef5bf71d1ccc8ec0b4be15866fb97131c7b1d88", func := "counterfoil/counterfoillaw43.MeterBounds", spec := "meterBounds", apart := false, narrowed := true }
def MeterBoundsUptoSaid : Prop := meterBoundsUptoRow.holds Try.pinned (OpenSpec.upto meterBoundsSpec)

/-- 'counterfoillaw41.SpreadAdds', WHERE WHAT IT READS IS OF BULK AT MOST 1048576: true; the input reads as it did. -/
def spreadAddsUptoRow : OpenClaim := { program := "ytaaincffbaaopaa", sum := "016fea3c7f584f4bda664c1a4ef5bf71d1ccc8ec0b4be15866fb97131c7b1d88", func := "counterfoil/counterfoillaw41.SpreadAdds", spec := "spreadAdds", apart := false, narrowed := true }
def SpreadAddsUptoSaid : Prop := spreadAddsUptoRow.holds Try.pinned (OpenSpec.upto spreadAddsSpec)

end Rows
end Go.Proofs.Ytaaincffbaaopaa
