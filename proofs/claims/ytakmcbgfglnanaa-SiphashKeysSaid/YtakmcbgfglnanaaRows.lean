/-
  No cell of these rows narrows 'for every input' (looked for: loops, veiled, ifaces, maps, wideKeys, modest, calm, conditions, laid).
  DERIVED. THE GIVEN ROWS OF THIS SEAT. 14 by the template 'for every input the law returns true; each argument reads behind the call as it read before'; 0 by the template 'total and deterministic' (their statements: YtakmcbgfglnanaaTotals.lean).
  GIVEN WITH THE SEED: the statements are not yours to turn. If you find one false, say at which input.
  Laid BY PROGRAM, IN A SANDBOX (cutbox-rows.mjs): the forced cells as the released guide's own fill.sh prints them over the translation 6b157a9db18c82cb… (all of the seat's roots in one cut). By AI agents, Wed Nov 11 2026. No macro, syntax, notation, axiom, sorry.
-/
import Derived.Test.YtakmcbgfglnanaaChecked
import GoSem.Claim
import GoSem.ClaimJoined
import GoSem.ClaimMapViews
import Derived.JoinedTies
import Derived.KernelRfl
namespace Go.Proofs.Ytakmcbgfglnanaa
/- THE CELL 'sum', in the pinned program and in every row, IS THE sha256 OF THE DUMP (.gsa) THAT YtakmcbgfglnanaaProg.lean LOADS. Nothing in Lean hashes anything: it is a label: what it is worth is what the hold of that sum in a sandbox is worth. -/
noncomputable def Try.pinned : Pinned := { name := "ytakmcbgfglnanaa", sum := "6b157a9db18c82cbade610069401b23f144d1e1197bacd9a68fddd7eb45346ed", checked := Try.checked }
namespace Rows
def none {H : Type} : Left H := { results := [], args := [] }

/-- 'counterfoillaw18.TurnPicks': WHATEVER THE INPUT: true; the input reads as it did. -/
def turnPicksSpec : ChangeSpec := { name := "turnPicks", fn := fun _ => fun
  | [d] => { results := [.lit (.bool true)], args := [d] }
  | _ => none }
def turnPicksRow : OpenClaim := { program := "ytakmcbgfglnanaa", sum := "6b157a9db18c82cbade610069401b23f144d1e1197bacd9a68fddd7eb45346ed", func := "counterfoil/counterfoillaw18.TurnPicks", spec := "turnPicks", apart := false }
def TurnPicksSaid : Prop := turnPicksRow.holds Try.pinned (OpenSpec.ofChange turnPicksSpec)

/-- ITS FALSE NEIGHBOUR: 'it returns false'. Refute it at one input. -/
def turnPicksWrong : ChangeSpec := { name := "turnPicks", fn := fun _ => fun
  | [d] => { results := [.lit (.bool false)], args := [d] }
  | _ => none }
def TurnPicksWrongFalsely : Prop := turnPicksRow.holds Try.pinned (OpenSpec.ofChange turnPicksWrong)

/-- 'counterfoillaw43.MeterBuckets': WHATEVER THE INPUT: true; the input reads as it did. -/
def meterBucketsSpec : ChangeSpec := { name := "meterBuckets", fn := fun _ => fun
  | [d1, d2, d3] => { results := [.lit (.bool true)], args := [d1, d2, d3] }
  | _ => none }
def meterBucketsRow : OpenClaim := { program := "ytakmcbgfglnanaa", sum := "6b157a9db18c82cbade610069401b23f144d1e1197bacd9a68fddd7eb45346ed", func := "counterfoil/counterfoillaw43.MeterBuckets", spec := "meterBuckets", apart := false }
def MeterBucketsSaid : Prop := meterBucketsRow.holds Try.pinned (OpenSpec.ofChange meterBucketsSpec)

/-- ITS FALSE NEIGHBOUR: 'it returns false'. Refute it at one input. -/
def meterBucketsWrong : ChangeSpec := { name := "meterBuckets", fn := fun _ => fun
  | [d1, d2, d3] => { results := [.lit (.bool false)], args := [d1, d2, d3] }
  | _ => none }
def MeterBucketsWrongFalsely : Prop := meterBucketsRow.holds Try.pinned (OpenSpec.ofChange meterBucketsWrong)

/-- 'counterfoillaw43.MeterHists': WHATEVER THE INPUT: true; the input reads as it did. -/
def meterHistsSpec : ChangeSpec := { name := "meterHists", fn := fun _ => fun
  | [d1, d2, d3] => { results := [.lit (.bool true)], args := [d1, d2, d3] }
  | _ => none }
def meterHistsRow : OpenClaim := { program := "ytakmcbgfglnanaa", sum := "6b157a9db18c82cbade610069401b23f144d1e1197bacd9a68fddd7eb45346ed", func := "counterfoil/counterfoillaw43.MeterHists", spec := "meterHists", apart := false }
def MeterHistsSaid : Prop := meterHistsRow.holds Try.pinned (OpenSpec.ofChange meterHistsSpec)

/-- ITS FALSE NEIGHBOUR: 'it returns false'. Refute it at one input. -/
def meterHistsWrong : ChangeSpec := { name := "meterHists", fn := fun _ => fun
  | [d1, d2, d3] => { results := [.lit (.bool false)], args := [d1, d2, d3] }
  | _ => none }
def MeterHistsWrongFalsely : Prop := meterHistsRow.holds Try.pinned (OpenSpec.ofChange meterHistsWrong)

/-- 'counterfoillaw41.SpreadPlaces': WHATEVER THE INPUT: true; the input reads as it did. -/
def spreadPlacesSpec : ChangeSpec := { name := "spreadPlaces", fn := fun _ => fun
  | [d1, d2, d3, d4, d5] => { results := [.lit (.bool true)], args := [d1, d2, d3, d4, d5] }
  | _ => none }
def spreadPlacesRow : OpenClaim := { program := "ytakmcbgfglnanaa", sum := "6b157a9db18c82cbade610069401b23f144d1e1197bacd9a68fddd7eb45346ed", func := "counterfoil/counterfoillaw41.SpreadPlaces", spec := "spreadPlaces", apart := false }
def SpreadPlacesSaid : Prop := spreadPlacesRow.holds Try.pinned (OpenSpec.ofChange spreadPlacesSpec)

/-- ITS FALSE NEIGHBOUR: 'it returns false'. Refute it at one input. -/
def spreadPlacesWrong : ChangeSpec := { name := "spreadPlaces", fn := fun _ => fun
  | [d1, d2, d3, d4, d5] => { results := [.lit (.bool false)], args := [d1, d2, d3, d4, d5] }
  | _ => none }
def SpreadPlacesWrongFalsely : Prop := spreadPlacesRow.holds Try.pinned (OpenSpec.ofChange spreadPlacesWrong)

/-- 'counterfoillaw41.SpreadSums': WHATEVER THE INPUT: true; the input reads as it did. -/
def spreadSumsSpec : ChangeSpec := { name := "spreadSums", fn := fun _ => fun
  | [d1, d2, d3] => { results := [.lit (.bool true)], args := [d1, d2, d3] }
  | _ => none }
def spreadSumsRow : OpenClaim := { program := "ytakmcbgfglnanaa", sum := "6b157a9db18c82cbade610069401b23f144d1e1197bacd9a68fddd7eb45346ed", func := "counterfoil/counterfoillaw41.SpreadSums", spec := "spreadSums", apart := false }
def SpreadSumsSaid : Prop := spreadSumsRow.holds Try.pinned (OpenSpec.ofChange spreadSumsSpec)

/-- ITS FALSE NEIGHBOUR: 'it returns false'. Refute it at one input. -/
def spreadSumsWrong : ChangeSpec := { name := "spreadSums", fn := fun _ => fun
  | [d1, d2, d3] => { results := [.lit (.bool false)], args := [d1, d2, d3] }
  | _ => none }
def SpreadSumsWrongFalsely : Prop := spreadSumsRow.holds Try.pinned (OpenSpec.ofChange spreadSumsWrong)

/-- 'counterfoillaw39.VarintTakes': WHATEVER THE INPUT: true; the input reads as it did. -/
def varintTakesSpec : ChangeSpec := { name := "varintTakes", fn := fun _ => fun
  | [d] => { results := [.lit (.bool true)], args := [d] }
  | _ => none }
def varintTakesRow : OpenClaim := { program := "ytakmcbgfglnanaa", sum := "6b157a9db18c82cbade610069401b23f144d1e1197bacd9a68fddd7eb45346ed", func := "counterfoil/counterfoillaw39.VarintTakes", spec := "varintTakes", apart := false }
def VarintTakesSaid : Prop := varintTakesRow.holds Try.pinned (OpenSpec.ofChange varintTakesSpec)

/-- ITS FALSE NEIGHBOUR: 'it returns false'. Refute it at one input. -/
def varintTakesWrong : ChangeSpec := { name := "varintTakes", fn := fun _ => fun
  | [d] => { results := [.lit (.bool false)], args := [d] }
  | _ => none }
def VarintTakesWrongFalsely : Prop := varintTakesRow.holds Try.pinned (OpenSpec.ofChange varintTakesWrong)

/-- 'counterfoillaw39.VarintPuts': WHATEVER THE INPUT: true; the input reads as it did. -/
def varintPutsSpec : ChangeSpec := { name := "varintPuts", fn := fun _ => fun
  | [d1, d2] => { results := [.lit (.bool true)], args := [d1, d2] }
  | _ => none }
def varintPutsRow : OpenClaim := { program := "ytakmcbgfglnanaa", sum := "6b157a9db18c82cbade610069401b23f144d1e1197bacd9a68fddd7eb45346ed", func := "counterfoil/counterfoillaw39.VarintPuts", spec := "varintPuts", apart := false }
def VarintPutsSaid : Prop := varintPutsRow.holds Try.pinned (OpenSpec.ofChange varintPutsSpec)

/-- ITS FALSE NEIGHBOUR: 'it returns false'. Refute it at one input. -/
def varintPutsWrong : ChangeSpec := { name := "varintPuts", fn := fun _ => fun
  | [d1, d2] => { results := [.lit (.bool false)], args := [d1, d2] }
  | _ => none }
def VarintPutsWrongFalsely : Prop := varintPutsRow.holds Try.pinned (OpenSpec.ofChange varintPutsWrong)

/-- 'counterfoillaw10.SiphashFolds': WHATEVER THE INPUT: true; the input reads as it did. -/
def siphashFoldsSpec : ChangeSpec := { name := "siphashFolds", fn := fun _ => fun
  | [d1, d2] => { results := [.lit (.bool true)], args := [d1, d2] }
  | _ => none }
def siphashFoldsRow : OpenClaim := { program := "ytakmcbgfglnanaa", sum := "6b157a9db18c82cbade610069401b23f144d1e1197bacd9a68fddd7eb45346ed", func := "counterfoil/counterfoillaw10.SiphashFolds", spec := "siphashFolds", apart := false }
def SiphashFoldsSaid : Prop := siphashFoldsRow.holds Try.pinned (OpenSpec.ofChange siphashFoldsSpec)

/-- ITS FALSE NEIGHBOUR: 'it returns false'. Refute it at one input. -/
def siphashFoldsWrong : ChangeSpec := { name := "siphashFolds", fn := fun _ => fun
  | [d1, d2] => { results := [.lit (.bool false)], args := [d1, d2] }
  | _ => none }
def SiphashFoldsWrongFalsely : Prop := siphashFoldsRow.holds Try.pinned (OpenSpec.ofChange siphashFoldsWrong)

/-- 'counterfoillaw10.SiphashSums': WHATEVER THE INPUT: true; the input reads as it did. -/
def siphashSumsSpec : ChangeSpec := { name := "siphashSums", fn := fun _ => fun
  | [d1, d2] => { results := [.lit (.bool true)], args := [d1, d2] }
  | _ => none }
def siphashSumsRow : OpenClaim := { program := "ytakmcbgfglnanaa", sum := "6b157a9db18c82cbade610069401b23f144d1e1197bacd9a68fddd7eb45346ed", func := "counterfoil/counterfoillaw10.SiphashSums", spec := "siphashSums", apart := false }
def SiphashSumsSaid : Prop := siphashSumsRow.holds Try.pinned (OpenSpec.ofChange siphashSumsSpec)

/-- ITS FALSE NEIGHBOUR: 'it returns false'. Refute it at one input. -/
def siphashSumsWrong : ChangeSpec := { name := "siphashSums", fn := fun _ => fun
  | [d1, d2] => { results := [.lit (.bool false)], args := [d1, d2] }
  | _ => none }
def SiphashSumsWrongFalsely : Prop := siphashSumsRow.holds Try.pinned (OpenSpec.ofChange siphashSumsWrong)

/-- 'counterfoillaw10.SiphashKeys': WHATEVER THE INPUT: true; the input reads as it did. -/
def siphashKeysSpec : ChangeSpec := { name := "siphashKeys", fn := fun _ => fun
  | [d1, d2, d3, d4] => { results := [.lit (.bool true)], args := [d1, d2, d3, d4] }
  | _ => none }
def siphashKeysRow : OpenClaim := { program := "ytakmcbgfglnanaa", sum := "6b157a9db18c82cbade610069401b23f144d1e1197bacd9a68fddd7eb45346ed", func := "counterfoil/counterfoillaw10.SiphashKeys", spec := "siphashKeys", apart := false }
def SiphashKeysSaid : Prop := siphashKeysRow.holds Try.pinned (OpenSpec.ofChange siphashKeysSpec)

/-- ITS FALSE NEIGHBOUR: 'it returns false'. Refute it at one input. -/
def siphashKeysWrong : ChangeSpec := { name := "siphashKeys", fn := fun _ => fun
  | [d1, d2, d3, d4] => { results := [.lit (.bool false)], args := [d1, d2, d3, d4] }
  | _ => none }
def SiphashKeysWrongFalsely : Prop := siphashKeysRow.holds Try.pinned (OpenSpec.ofChange siphashKeysWrong)

/-- 'counterfoillaw11.RingKeeps': WHATEVER THE INPUT: true; the input reads as it did. -/
def ringKeepsSpec : ChangeSpec := { name := "ringKeeps", fn := fun _ => fun
  | [d] => { results := [.lit (.bool true)], args := [d] }
  | _ => none }
def ringKeepsRow : OpenClaim := { program := "ytakmcbgfglnanaa", sum := "6b157a9db18c82cbade610069401b23f144d1e1197bacd9a68fddd7eb45346ed", func := "counterfoil/counterfoillaw11.RingKeeps", spec := "ringKeeps", apart := false }
def RingKeepsSaid : Prop := ringKeepsRow.holds Try.pinned (OpenSpec.ofChange ringKeepsSpec)

/-- ITS FALSE NEIGHBOUR: 'it returns false'. Refute it at one input. -/
def ringKeepsWrong : ChangeSpec := { name := "ringKeeps", fn := fun _ => fun
  | [d] => { results := [.lit (.bool false)], args := [d] }
  | _ => none }
def RingKeepsWrongFalsely : Prop := ringKeepsRow.holds Try.pinned (OpenSpec.ofChange ringKeepsWrong)

/-- 'counterfoillaw08.IcmpBig': WHATEVER THE INPUT: true; the input reads as it did. -/
def icmpBigSpec : ChangeSpec := { name := "icmpBig", fn := fun _ => fun
  | [d1, d2, d3] => { results := [.lit (.bool true)], args := [d1, d2, d3] }
  | _ => none }
def icmpBigRow : OpenClaim := { program := "ytakmcbgfglnanaa", sum := "6b157a9db18c82cbade610069401b23f144d1e1197bacd9a68fddd7eb45346ed", func := "counterfoil/counterfoillaw08.IcmpBig", spec := "icmpBig", apart := false }
def IcmpBigSaid : Prop := icmpBigRow.holds Try.pinned (OpenSpec.ofChange icmpBigSpec)

/-- ITS FALSE NEIGHBOUR: 'it returns false'. Refute it at one input. -/
def icmpBigWrong : ChangeSpec := { name := "icmpBig", fn := fun _ => fun
  | [d1, d2, d3] => { results := [.lit (.bool false)], args := [d1, d2, d3] }
  | _ => none }
def IcmpBigWrongFalsely : Prop := icmpBigRow.holds Try.pinned (OpenSpec.ofChange icmpBigWrong)

/-- 'counterfoillaw18.TurnTwo': WHATEVER THE INPUT: true; the input reads as it did. -/
def turnTwoSpec : ChangeSpec := { name := "turnTwo", fn := fun _ => fun
  | [d1, d2, d3] => { results := [.lit (.bool true)], args := [d1, d2, d3] }
  | _ => none }
def turnTwoRow : OpenClaim := { program := "ytakmcbgfglnanaa", sum := "6b157a9db18c82cbade610069401b23f144d1e1197bacd9a68fddd7eb45346ed", func := "counterfoil/counterfoillaw18.TurnTwo", spec := "turnTwo", apart := false }
def TurnTwoSaid : Prop := turnTwoRow.holds Try.pinned (OpenSpec.ofChange turnTwoSpec)

/-- ITS FALSE NEIGHBOUR: 'it returns false'. Refute it at one input. -/
def turnTwoWrong : ChangeSpec := { name := "turnTwo", fn := fun _ => fun
  | [d1, d2, d3] => { results := [.lit (.bool false)], args := [d1, d2, d3] }
  | _ => none }
def TurnTwoWrongFalsely : Prop := turnTwoRow.holds Try.pinned (OpenSpec.ofChange turnTwoWrong)

/-- 'counterfoillaw18.TurnAll': WHATEVER THE INPUT: true; the input reads as it did. -/
def turnAllSpec : ChangeSpec := { name := "turnAll", fn := fun _ => fun
  | [d1, d2] => { results := [.lit (.bool true)], args := [d1, d2] }
  | _ => none }
def turnAllRow : OpenClaim := { program := "ytakmcbgfglnanaa", sum := "6b157a9db18c82cbade610069401b23f144d1e1197bacd9a68fddd7eb45346ed", func := "counterfoil/counterfoillaw18.TurnAll", spec := "turnAll", apart := false }
def TurnAllSaid : Prop := turnAllRow.holds Try.pinned (OpenSpec.ofChange turnAllSpec)

/-- ITS FALSE NEIGHBOUR: 'it returns false'. Refute it at one input. -/
def turnAllWrong : ChangeSpec := { name := "turnAll", fn := fun _ => fun
  | [d1, d2] => { results := [.lit (.bool false)], args := [d1, d2] }
  | _ => none }
def TurnAllWrongFalsely : Prop := turnAllRow.holds Try.pinned (OpenSpec.ofChange turnAllWrong)

/- THE SECOND FORM. 'bulk': how many values and letters a reading holds, each counted each time it is reached (what is shared counts as often as it is met; a slice's spare places count too). A statement '..UptoSaid' is the law's where the arguments, and the package variables that the reading takes, are together of bulk at most 1048576: NARROWER than '..Said'. Prove '..Said' where nothing that the law and all that it calls make is longer than what came in: it says more and counts as full. Else prove '..UptoSaid'. A law counts once. -/
mutual
def uptoBulk {H : Type} : DataW H → Nat
  | .lit (.string bytes) => bytes.length + 1
  | .lit _ => 1
  | .nil => 1
  | .ptr d => uptoBulk d + 1
  | .slice elems spare => uptoBulkAll elems + uptoBulkAll spare + 1
  | .agg parts => uptoBulkAll parts + 1
  | .iface _ d => uptoBulk d + 1
  | .map entries => uptoBulkEntries entries + 1
  | .held _ => 1
def uptoBulkAll {H : Type} : List (DataW H) → Nat
  | [] => 0
  | d :: r => uptoBulk d + uptoBulkAll r
def uptoBulkEntries {H : Type} : List (Lit × DataW H) → Nat
  | [] => 0
  | x :: r => uptoBulkEntry x + uptoBulkEntries r
def uptoBulkEntry {H : Type} : Lit × DataW H → Nat
  | (.string bytes, d) => bytes.length + uptoBulk d + 1
  | (_, d) => uptoBulk d + 1
 end
def uptoSmall : (H : Type) → List (DataW H) → Bool := fun _ ds => decide (uptoBulkAll ds ≤ 1048576)
def OpenSpec.upto (s : _root_.Go.ChangeSpec) : _root_.Go.OpenSpec := { _root_.Go.OpenSpec.ofChange s with cond := some uptoSmall }

/-- 'counterfoillaw18.TurnPicks', WHERE WHAT IT READS IS OF BULK AT MOST 1048576: true; the input reads as it did. -/
def turnPicksUptoRow : OpenClaim := { program := "ytakmcbgfglnanaa", sum := "6b157a9db18c82cbade610069401b23f144d1e1197bacd9a68fddd7eb45346ed", func := "counterfoil/counterfoillaw18.TurnPicks", spec := "turnPicks", apart := false, narrowed := true }
def TurnPicksUptoSaid : Prop := turnPicksUptoRow.holds Try.pinned (OpenSpec.upto turnPicksSpec)

/-- 'counterfoillaw43.MeterBuckets', WHERE WHAT IT READS IS OF BULK AT MOST 1048576: true; the input reads as it did. -/
def meterBucketsUptoRow : OpenClaim := { program := "ytakmcbgfglnanaa", sum := "6b157a9db18c82cbade610069401b23f144d1e1197bacd9a68fddd7eb45346ed", func := "counterfoil/counterfoillaw43.MeterBuckets", spec := "meterBuckets", apart := false, narrowed := true }
def MeterBucketsUptoSaid : Prop := meterBucketsUptoRow.holds Try.pinned (OpenSpec.upto meterBucketsSpec)

/-- 'counterfoillaw43.MeterHists', WHERE WHAT IT READS IS OF BULK AT MOST 1048576: true; the input reads as it did. -/
def meterHistsUptoRow : OpenClaim := { program := "ytakmcbgfglnanaa", sum := "6b157a9db18c82cbade610069401b23f144d1e1197bacd9a68fddd7eb45346ed", func := "counterfoil/counterfoillaw43.MeterHists", spec := "meterHists", apart := false, narrowed := true }
def MeterHistsUptoSaid : Prop := meterHistsUptoRow.holds Try.pinned (OpenSpec.upto meterHistsSpec)

/-- 'counterfoillaw41.SpreadPlaces', WHERE WHAT IT READS IS OF BULK AT MOST 1048576: true; the input reads as it did. -/
def spreadPlacesUptoRow : OpenClaim := { program := "ytakmcbgfglnanaa", sum := "6b157a9db18c82cbade610069401b23f144d1e1197bacd9a68fddd7eb45346ed", func := "counterfoil/counterfoillaw41.SpreadPlaces", spec := "spreadPlaces", apart := false, narrowed := true }
def SpreadPlacesUptoSaid : Prop := spreadPlacesUptoRow.holds Try.pinned (OpenSpec.upto spreadPlacesSpec)

/-- 'counterfoillaw41.SpreadSums', WHERE WHAT IT READS IS OF BULK AT MOST 1048576: true; the input reads as it did. -/
def spreadSumsUptoRow : OpenClaim := { program := "ytakmcbgfglnanaa", sum := "6b157a9db18c82cbade610069401b23f144d1e1197bacd9a68fddd7eb45346ed", func := "counterfoil/counterfoillaw41.SpreadSums", spec := "spreadSums", apart := false, narrowed := true }
def SpreadSumsUptoSaid : Prop := spreadSumsUptoRow.holds Try.pinned (OpenSpec.upto spreadSumsSpec)

/-- 'counterfoillaw39.VarintTakes', WHERE WHAT IT READS IS OF BULK AT MOST 1048576: true; the input reads as it did. -/
def varintTakesUptoRow : OpenClaim := { program := "ytakmcbgfglnanaa", sum := "6b157a9db18c82cbade610069401b23f144d1e1197bacd9a68fddd7eb45346ed", func := "counterfoil/counterfoillaw39.VarintTakes", spec := "varintTakes", apart := false, narrowed := true }
def VarintTakesUptoSaid : Prop := varintTakesUptoRow.holds Try.pinned (OpenSpec.upto varintTakesSpec)

/-- 'counterfoillaw39.VarintPuts', WHERE WHAT IT READS IS OF BULK AT MOST 1048576: true; the input reads as it did. -/
def varintPutsUptoRow : OpenClaim := { program := "ytakmcbgfglnanaa", sum := "6b157a9db18c82cbade610069401b23f144d1e1197bacd9a68fddd7eb45346ed", func := "counterfoil/counterfoillaw39.VarintPuts", spec := "varintPuts", apart := false, narrowed := true }
def VarintPutsUptoSaid : Prop := varintPutsUptoRow.holds Try.pinned (OpenSpec.upto varintPutsSpec)

/-- 'counterfoillaw10.SiphashFolds', WHERE WHAT IT READS IS OF BULK AT MOST 1048576: true; the input reads as it did. -/
def siphashFoldsUptoRow : OpenClaim := { program := "ytakmcbgfglnanaa", sum := "6b157a9db18c82cbade610069401b23f144d1e1197bacd9a68fddd7eb45346ed", func := "counterfoil/counterfoillaw10.SiphashFolds", spec := "siphashFolds", apart := false, narrowed := true }
def SiphashFoldsUptoSaid : Prop := siphashFoldsUptoRow.holds Try.pinned (OpenSpec.upto siphashFoldsSpec)

/-- 'counterfoillaw10.SiphashSums', WHERE WHAT IT READS IS OF BULK AT MOST 1048576: true; the input reads as it did. -/
def siphashSumsUptoRow : OpenClaim := { program := "ytakmcbgfglnanaa", sum := "6b157a9db18c82cbade610069401b23f144d1e1197bacd9a68fddd7eb45346ed", func := "counterfoil/counterfoillaw10.SiphashSums", spec := "siphashSums", apart := false, narrowed := true }
def SiphashSumsUptoSaid : Prop := siphashSumsUptoRow.holds Try.pinned (OpenSpec.upto siphashSumsSpec)

/-- 'counterfoillaw10.SiphashKeys', WHERE WHAT IT READS IS OF BULK AT MOST 1048576: true; the input reads as it did. -/
def siphashKeysUptoRow : OpenClaim := { program := "ytakmcbgfglnanaa", sum := "6b157a9db18c82cbade610069401b23f144d1e1197bacd9a68fddd7eb45346ed", func := "counterfoil/counterfoillaw10.SiphashKeys", spec := "siphashKeys", apart := false, narrowed := true }
def SiphashKeysUptoSaid : Prop := siphashKeysUptoRow.holds Try.pinned (OpenSpec.upto siphashKeysSpec)

/-- 'counterfoillaw11.RingKeeps', WHERE WHAT IT READS IS OF BULK AT MOST 1048576: true; the input reads as it did. -/
def ringKeepsUptoRow : OpenClaim := { program := "ytakmcbgfglnanaa", sum := "6b157a9db18c82cbade610069401b23f144d1e1197bacd9a68fddd7eb45346ed", func := "counterfoil/counterfoillaw11.RingKeeps", spec := "ringKeeps", apart := false, narrowed := true }
def RingKeepsUptoSaid : Prop := ringKeepsUptoRow.holds Try.pinned (OpenSpec.upto ringKeepsSpec)

/-- 'counterfoillaw08.IcmpBig', WHERE WHAT IT READS IS OF BULK AT MOST 1048576: true; the input reads as it did. -/
def icmpBigUptoRow : OpenClaim := { program := "ytakmcbgfglnanaa", sum := "6b157a9db18c82cbade610069401b23f144d1e1197bacd9a68fddd7eb45346ed", func := "counterfoil/counterfoillaw08.IcmpBig", spec := "icmpBig", apart := false, narrowed := true }
def IcmpBigUptoSaid : Prop := icmpBigUptoRow.holds Try.pinned (OpenSpec.upto icmpBigSpec)

/-- 'counterfoillaw18.TurnTwo', WHERE WHAT IT READS IS OF BULK AT MOST 1048576: true; the input reads as it did. -/
def turnTwoUptoRow : OpenClaim := { program := "ytakmcbgfglnanaa", sum := "6b157a9db18c82cbade610069401b23f144d1e1197bacd9a68fddd7eb45346ed", func := "counterfoil/counterfoillaw18.TurnTwo", spec := "turnTwo", apart := false, narrowed := true }
def TurnTwoUptoSaid : Prop := turnTwoUptoRow.holds Try.pinned (OpenSpec.upto turnTwoSpec)

/-- 'counterfoillaw18.TurnAll', WHERE WHAT IT READS IS OF BULK AT MOST 1048576: true; the input reads as it did. -/
def turnAllUptoRow : OpenClaim := { program := "ytakmcbgfglnanaa", sum := "6b157a9db18c82cbade610069401b23f144d1e1197bacd9a68fddd7eb45346ed", func := "counterfoil/counterfoillaw18.TurnAll", spec := "turnAll", apart := false, narrowed := true }
def TurnAllUptoSaid : Prop := turnAllUptoRow.holds Try.pinned (OpenSpec.upto turnAllSpec)

end Rows
end Go.Proofs.Ytakmcbgfglnanaa
