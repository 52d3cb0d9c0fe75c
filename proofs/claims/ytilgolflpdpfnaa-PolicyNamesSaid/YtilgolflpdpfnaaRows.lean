/-
  No cell of these rows narrows 'for every input' (looked for: loops, veiled, ifaces, maps, wideKeys, modest, calm, conditions, laid).
  DERIVED. THE GIVEN ROWS OF THIS SEAT. 14 by the template 'for every input the law returns true; each argument reads behind the call as it read before'; 0 by the template 'total and deterministic' (their statements: YtilgolflpdpfnaaTotals.lean).
  GIVEN WITH THE SEED: the statements are not yours to turn. If you find one false, say at which input.
  Laid BY PROGRAM, IN A SANDBOX (cutbox-rows.mjs): the forced cells as the released guide's own fill.sh prints them over the translation e2e6c09c27daf376… (all of the seat's roots in one cut). By AI agents, Wed Nov 11 2026. No macro, syntax, notation, axiom, sorry.
-/
import Derived.Test.YtilgolflpdpfnaaChecked
import GoSem.Claim
import GoSem.ClaimJoined
import GoSem.ClaimMapViews
import Derived.JoinedTies
import Derived.KernelRfl
namespace Go.Proofs.Ytilgolflpdpfnaa
/- THE CELL 'sum', in the pinned program and in every row, IS THE sha256 OF THE DUMP (.gsa) THAT YtilgolflpdpfnaaProg.lean LOADS. Nothing in Lean hashes anything: it is a label: what it is worth is what the hold of that sum in a sandbox is worth. -/
noncomputable def Try.pinned : Pinned := { name := "ytilgolflpdpfnaa", sum := "e2e6c09c27daf376c083bef8008585f5d538b2a64d620ad46c6ed87bbe961e64", checked := Try.checked }
namespace Rows
def none {H : Type} : Left H := { results := [], args := [] }

/-- 'counterfoillaw09.TunnelReads': WHATEVER THE INPUT: true; the input reads as it did. -/
def tunnelReadsSpec : ChangeSpec := { name := "tunnelReads", fn := fun _ => fun
  | [d] => { results := [.lit (.bool true)], args := [d] }
  | _ => none }
def tunnelReadsRow : OpenClaim := { program := "ytilgolflpdpfnaa", sum := "e2e6c09c27daf376c083bef8008585f5d538b2a64d620ad46c6ed87bbe961e64", func := "counterfoil/counterfoillaw09.TunnelReads", spec := "tunnelReads", apart := false }
def TunnelReadsSaid : Prop := tunnelReadsRow.holds Try.pinned (OpenSpec.ofChange tunnelReadsSpec)

/-- ITS FALSE NEIGHBOUR: 'it returns false'. Refute it at one input. -/
def tunnelReadsWrong : ChangeSpec := { name := "tunnelReads", fn := fun _ => fun
  | [d] => { results := [.lit (.bool false)], args := [d] }
  | _ => none }
def TunnelReadsWrongFalsely : Prop := tunnelReadsRow.holds Try.pinned (OpenSpec.ofChange tunnelReadsWrong)

/-- 'counterfoillaw09.TunnelTwice': WHATEVER THE INPUT: true; the input reads as it did. -/
def tunnelTwiceSpec : ChangeSpec := { name := "tunnelTwice", fn := fun _ => fun
  | [d1, d2, d3, d4] => { results := [.lit (.bool true)], args := [d1, d2, d3, d4] }
  | _ => none }
def tunnelTwiceRow : OpenClaim := { program := "ytilgolflpdpfnaa", sum := "e2e6c09c27daf376c083bef8008585f5d538b2a64d620ad46c6ed87bbe961e64", func := "counterfoil/counterfoillaw09.TunnelTwice", spec := "tunnelTwice", apart := false }
def TunnelTwiceSaid : Prop := tunnelTwiceRow.holds Try.pinned (OpenSpec.ofChange tunnelTwiceSpec)

/-- ITS FALSE NEIGHBOUR: 'it returns false'. Refute it at one input. -/
def tunnelTwiceWrong : ChangeSpec := { name := "tunnelTwice", fn := fun _ => fun
  | [d1, d2, d3, d4] => { results := [.lit (.bool false)], args := [d1, d2, d3, d4] }
  | _ => none }
def TunnelTwiceWrongFalsely : Prop := tunnelTwiceRow.holds Try.pinned (OpenSpec.ofChange tunnelTwiceWrong)

/-- 'counterfoillaw45.CaptureWrites': WHATEVER THE INPUT: true; the input reads as it did. -/
def captureWritesSpec : ChangeSpec := { name := "captureWrites", fn := fun _ => fun
  | [d1, d2] => { results := [.lit (.bool true)], args := [d1, d2] }
  | _ => none }
def captureWritesRow : OpenClaim := { program := "ytilgolflpdpfnaa", sum := "e2e6c09c27daf376c083bef8008585f5d538b2a64d620ad46c6ed87bbe961e64", func := "counterfoil/counterfoillaw45.CaptureWrites", spec := "captureWrites", apart := false }
def CaptureWritesSaid : Prop := captureWritesRow.holds Try.pinned (OpenSpec.ofChange captureWritesSpec)

/-- ITS FALSE NEIGHBOUR: 'it returns false'. Refute it at one input. -/
def captureWritesWrong : ChangeSpec := { name := "captureWrites", fn := fun _ => fun
  | [d1, d2] => { results := [.lit (.bool false)], args := [d1, d2] }
  | _ => none }
def CaptureWritesWrongFalsely : Prop := captureWritesRow.holds Try.pinned (OpenSpec.ofChange captureWritesWrong)

/-- 'counterfoillaw11.RingKeys': WHATEVER THE INPUT: true; the input reads as it did. -/
def ringKeysSpec : ChangeSpec := { name := "ringKeys", fn := fun _ => fun
  | [d1, d2] => { results := [.lit (.bool true)], args := [d1, d2] }
  | _ => none }
def ringKeysRow : OpenClaim := { program := "ytilgolflpdpfnaa", sum := "e2e6c09c27daf376c083bef8008585f5d538b2a64d620ad46c6ed87bbe961e64", func := "counterfoil/counterfoillaw11.RingKeys", spec := "ringKeys", apart := false }
def RingKeysSaid : Prop := ringKeysRow.holds Try.pinned (OpenSpec.ofChange ringKeysSpec)

/-- ITS FALSE NEIGHBOUR: 'it returns false'. Refute it at one input. -/
def ringKeysWrong : ChangeSpec := { name := "ringKeys", fn := fun _ => fun
  | [d1, d2] => { results := [.lit (.bool false)], args := [d1, d2] }
  | _ => none }
def RingKeysWrongFalsely : Prop := ringKeysRow.holds Try.pinned (OpenSpec.ofChange ringKeysWrong)

/-- 'counterfoillaw11.RingBytes': WHATEVER THE INPUT: true; the input reads as it did. -/
def ringBytesSpec : ChangeSpec := { name := "ringBytes", fn := fun _ => fun
  | [d1, d2] => { results := [.lit (.bool true)], args := [d1, d2] }
  | _ => none }
def ringBytesRow : OpenClaim := { program := "ytilgolflpdpfnaa", sum := "e2e6c09c27daf376c083bef8008585f5d538b2a64d620ad46c6ed87bbe961e64", func := "counterfoil/counterfoillaw11.RingBytes", spec := "ringBytes", apart := false }
def RingBytesSaid : Prop := ringBytesRow.holds Try.pinned (OpenSpec.ofChange ringBytesSpec)

/-- ITS FALSE NEIGHBOUR: 'it returns false'. Refute it at one input. -/
def ringBytesWrong : ChangeSpec := { name := "ringBytes", fn := fun _ => fun
  | [d1, d2] => { results := [.lit (.bool false)], args := [d1, d2] }
  | _ => none }
def RingBytesWrongFalsely : Prop := ringBytesRow.holds Try.pinned (OpenSpec.ofChange ringBytesWrong)

/-- 'counterfoillaw11.RingKeeps': WHATEVER THE INPUT: true; the input reads as it did. -/
def ringKeepsSpec : ChangeSpec := { name := "ringKeeps", fn := fun _ => fun
  | [d] => { results := [.lit (.bool true)], args := [d] }
  | _ => none }
def ringKeepsRow : OpenClaim := { program := "ytilgolflpdpfnaa", sum := "e2e6c09c27daf376c083bef8008585f5d538b2a64d620ad46c6ed87bbe961e64", func := "counterfoil/counterfoillaw11.RingKeeps", spec := "ringKeeps", apart := false }
def RingKeepsSaid : Prop := ringKeepsRow.holds Try.pinned (OpenSpec.ofChange ringKeepsSpec)

/-- ITS FALSE NEIGHBOUR: 'it returns false'. Refute it at one input. -/
def ringKeepsWrong : ChangeSpec := { name := "ringKeeps", fn := fun _ => fun
  | [d] => { results := [.lit (.bool false)], args := [d] }
  | _ => none }
def RingKeepsWrongFalsely : Prop := ringKeepsRow.holds Try.pinned (OpenSpec.ofChange ringKeepsWrong)

/-- 'counterfoillaw13.CidMakes': WHATEVER THE INPUT: true; the input reads as it did. -/
def cidMakesSpec : ChangeSpec := { name := "cidMakes", fn := fun _ => fun
  | [d1, d2, d3] => { results := [.lit (.bool true)], args := [d1, d2, d3] }
  | _ => none }
def cidMakesRow : OpenClaim := { program := "ytilgolflpdpfnaa", sum := "e2e6c09c27daf376c083bef8008585f5d538b2a64d620ad46c6ed87bbe961e64", func := "counterfoil/counterfoillaw13.CidMakes", spec := "cidMakes", apart := false }
def CidMakesSaid : Prop := cidMakesRow.holds Try.pinned (OpenSpec.ofChange cidMakesSpec)

/-- ITS FALSE NEIGHBOUR: 'it returns false'. Refute it at one input. -/
def cidMakesWrong : ChangeSpec := { name := "cidMakes", fn := fun _ => fun
  | [d1, d2, d3] => { results := [.lit (.bool false)], args := [d1, d2, d3] }
  | _ => none }
def CidMakesWrongFalsely : Prop := cidMakesRow.holds Try.pinned (OpenSpec.ofChange cidMakesWrong)

/-- 'counterfoillaw13.CidReads': WHATEVER THE INPUT: true; the input reads as it did. -/
def cidReadsSpec : ChangeSpec := { name := "cidReads", fn := fun _ => fun
  | [d1, d2] => { results := [.lit (.bool true)], args := [d1, d2] }
  | _ => none }
def cidReadsRow : OpenClaim := { program := "ytilgolflpdpfnaa", sum := "e2e6c09c27daf376c083bef8008585f5d538b2a64d620ad46c6ed87bbe961e64", func := "counterfoil/counterfoillaw13.CidReads", spec := "cidReads", apart := false }
def CidReadsSaid : Prop := cidReadsRow.holds Try.pinned (OpenSpec.ofChange cidReadsSpec)

/-- ITS FALSE NEIGHBOUR: 'it returns false'. Refute it at one input. -/
def cidReadsWrong : ChangeSpec := { name := "cidReads", fn := fun _ => fun
  | [d1, d2] => { results := [.lit (.bool false)], args := [d1, d2] }
  | _ => none }
def CidReadsWrongFalsely : Prop := cidReadsRow.holds Try.pinned (OpenSpec.ofChange cidReadsWrong)

/-- 'counterfoillaw13.CidLeases': WHATEVER THE INPUT: true; the input reads as it did. -/
def cidLeasesSpec : ChangeSpec := { name := "cidLeases", fn := fun _ => fun
  | [d1, d2, d3, d4] => { results := [.lit (.bool true)], args := [d1, d2, d3, d4] }
  | _ => none }
def cidLeasesRow : OpenClaim := { program := "ytilgolflpdpfnaa", sum := "e2e6c09c27daf376c083bef8008585f5d538b2a64d620ad46c6ed87bbe961e64", func := "counterfoil/counterfoillaw13.CidLeases", spec := "cidLeases", apart := false }
def CidLeasesSaid : Prop := cidLeasesRow.holds Try.pinned (OpenSpec.ofChange cidLeasesSpec)

/-- ITS FALSE NEIGHBOUR: 'it returns false'. Refute it at one input. -/
def cidLeasesWrong : ChangeSpec := { name := "cidLeases", fn := fun _ => fun
  | [d1, d2, d3, d4] => { results := [.lit (.bool false)], args := [d1, d2, d3, d4] }
  | _ => none }
def CidLeasesWrongFalsely : Prop := cidLeasesRow.holds Try.pinned (OpenSpec.ofChange cidLeasesWrong)

/-- 'counterfoillaw12.CookieBack': WHATEVER THE INPUT: true; the input reads as it did. -/
def cookieBackSpec : ChangeSpec := { name := "cookieBack", fn := fun _ => fun
  | [d1, d2, d3] => { results := [.lit (.bool true)], args := [d1, d2, d3] }
  | _ => none }
def cookieBackRow : OpenClaim := { program := "ytilgolflpdpfnaa", sum := "e2e6c09c27daf376c083bef8008585f5d538b2a64d620ad46c6ed87bbe961e64", func := "counterfoil/counterfoillaw12.CookieBack", spec := "cookieBack", apart := false }
def CookieBackSaid : Prop := cookieBackRow.holds Try.pinned (OpenSpec.ofChange cookieBackSpec)

/-- ITS FALSE NEIGHBOUR: 'it returns false'. Refute it at one input. -/
def cookieBackWrong : ChangeSpec := { name := "cookieBack", fn := fun _ => fun
  | [d1, d2, d3] => { results := [.lit (.bool false)], args := [d1, d2, d3] }
  | _ => none }
def CookieBackWrongFalsely : Prop := cookieBackRow.holds Try.pinned (OpenSpec.ofChange cookieBackWrong)

/-- 'counterfoillaw41.SpreadSums': WHATEVER THE INPUT: true; the input reads as it did. -/
def spreadSumsSpec : ChangeSpec := { name := "spreadSums", fn := fun _ => fun
  | [d1, d2, d3] => { results := [.lit (.bool true)], args := [d1, d2, d3] }
  | _ => none }
def spreadSumsRow : OpenClaim := { program := "ytilgolflpdpfnaa", sum := "e2e6c09c27daf376c083bef8008585f5d538b2a64d620ad46c6ed87bbe961e64", func := "counterfoil/counterfoillaw41.SpreadSums", spec := "spreadSums", apart := false }
def SpreadSumsSaid : Prop := spreadSumsRow.holds Try.pinned (OpenSpec.ofChange spreadSumsSpec)

/-- ITS FALSE NEIGHBOUR: 'it returns false'. Refute it at one input. -/
def spreadSumsWrong : ChangeSpec := { name := "spreadSums", fn := fun _ => fun
  | [d1, d2, d3] => { results := [.lit (.bool false)], args := [d1, d2, d3] }
  | _ => none }
def SpreadSumsWrongFalsely : Prop := spreadSumsRow.holds Try.pinned (OpenSpec.ofChange spreadSumsWrong)

/-- 'counterfoillaw21.PolicyNames': WHATEVER THE INPUT: true; the input reads as it did. -/
def policyNamesSpec : ChangeSpec := { name := "policyNames", fn := fun _ => fun
  | [d1, d2] => { results := [.lit (.bool true)], args := [d1, d2] }
  | _ => none }
def policyNamesRow : OpenClaim := { program := "ytilgolflpdpfnaa", sum := "e2e6c09c27daf376c083bef8008585f5d538b2a64d620ad46c6ed87bbe961e64", func := "counterfoil/counterfoillaw21.PolicyNames", spec := "policyNames", apart := false }
def PolicyNamesSaid : Prop := policyNamesRow.holds Try.pinned (OpenSpec.ofChange policyNamesSpec)

/-- ITS FALSE NEIGHBOUR: 'it returns false'. Refute it at one input. -/
def policyNamesWrong : ChangeSpec := { name := "policyNames", fn := fun _ => fun
  | [d1, d2] => { results := [.lit (.bool false)], args := [d1, d2] }
  | _ => none }
def PolicyNamesWrongFalsely : Prop := policyNamesRow.holds Try.pinned (OpenSpec.ofChange policyNamesWrong)

/-- 'counterfoillaw42.MaglevBuilds': WHATEVER THE INPUT: true; the input reads as it did. -/
def maglevBuildsSpec : ChangeSpec := { name := "maglevBuilds", fn := fun _ => fun
  | [d1, d2, d3, d4, d5] => { results := [.lit (.bool true)], args := [d1, d2, d3, d4, d5] }
  | _ => none }
def maglevBuildsRow : OpenClaim := { program := "ytilgolflpdpfnaa", sum := "e2e6c09c27daf376c083bef8008585f5d538b2a64d620ad46c6ed87bbe961e64", func := "counterfoil/counterfoillaw42.MaglevBuilds", spec := "maglevBuilds", apart := false }
def MaglevBuildsSaid : Prop := maglevBuildsRow.holds Try.pinned (OpenSpec.ofChange maglevBuildsSpec)

/-- ITS FALSE NEIGHBOUR: 'it returns false'. Refute it at one input. -/
def maglevBuildsWrong : ChangeSpec := { name := "maglevBuilds", fn := fun _ => fun
  | [d1, d2, d3, d4, d5] => { results := [.lit (.bool false)], args := [d1, d2, d3, d4, d5] }
  | _ => none }
def MaglevBuildsWrongFalsely : Prop := maglevBuildsRow.holds Try.pinned (OpenSpec.ofChange maglevBuildsWrong)

/-- 'counterfoillaw42.MaglevEven': WHATEVER THE INPUT: true; the input reads as it did. -/
def maglevEvenSpec : ChangeSpec := { name := "maglevEven", fn := fun _ => fun
  | [d1, d2, d3, d4] => { results := [.lit (.bool true)], args := [d1, d2, d3, d4] }
  | _ => none }
def maglevEvenRow : OpenClaim := { program := "ytilgolflpdpfnaa", sum := "e2e6c09c27daf376c083bef8008585f5d538b2a64d620ad46c6ed87bbe961e64", func := "counterfoil/counterfoillaw42.MaglevEven", spec := "maglevEven", apart := false }
def MaglevEvenSaid : Prop := maglevEvenRow.holds Try.pinned (OpenSpec.ofChange maglevEvenSpec)

/-- ITS FALSE NEIGHBOUR: 'it returns false'. Refute it at one input. -/
def maglevEvenWrong : ChangeSpec := { name := "maglevEven", fn := fun _ => fun
  | [d1, d2, d3, d4] => { results := [.lit (.bool false)], args := [d1, d2, d3, d4] }
  | _ => none }
def MaglevEvenWrongFalsely : Prop := maglevEvenRow.holds Try.pinned (OpenSpec.ofChange maglevEvenWrong)

/- THE SECOND FORM. 'bulk': how many values and letters a reading holds, each counted each time it is reached (what is shared counts as often as it is met; a slice's spare places count too). A statement '..UptoSaid' is the law's where the arguments, and the package variables that the reading takes, are together of bulk at most 1048576: NARROWER than '..Said'. Prove '..Said' where nothing that the law and all that it calls make is longer than what came in: it says more and counts as full. Else prove '..UptoSaid'. A law counts once. -/
mutual
def uptoBulk {H : Type} : DataW H → Nat
  | .lit (.string bytes) => bytes.length + 1
  | .lit _ => 1
  | .nil => 1
  | .ptr d => uptoBulk d + 1
  | .slice elems spare => uptoBulkAll elems + uptoBulkAll spare + 1
  | .agg parts => uptoBulkAll parts + 1
  | .iface _ d => uptoBulk d + 1
  | .map entries => uptoBulkEntries entries + 1
  | .held _ => 1
def uptoBulkAll {H : Type} : List (DataW H) → Nat
  | [] => 0
  | d :: r => uptoBulk d + uptoBulkAll r
def uptoBulkEntries {H : Type} : List (Lit × DataW H) → Nat
  | [] => 0
  | x :: r => uptoBulkEntry x + uptoBulkEntries r
def uptoBulkEntry {H : Type} : Lit × DataW H → Nat
  | (.string bytes, d) => bytes.length + uptoBulk d + 1
  | (_, d) => uptoBulk d + 1
 end
def uptoSmall : (H : Type) → List (DataW H) → Bool := fun _ ds => decide (uptoBulkAll ds ≤ 1048576)
def OpenSpec.upto (s : _root_.Go.ChangeSpec) : _root_.Go.OpenSpec := { _root_.Go.OpenSpec.ofChange s with cond := some uptoSmall }

/-- 'counterfoillaw09.TunnelReads', WHERE WHAT IT READS IS OF BULK AT MOST 1048576: true; the input reads as it did. -/
def tunnelReadsUptoRow : OpenClaim := { program := "ytilgolflpdpfnaa", sum := "e2e6c09c27daf376c083bef8008585f5d538b2a64d620ad46c6ed87bbe961e64", func := "counterfoil/counterfoillaw09.TunnelReads", spec := "tunnelReads", apart := false, narrowed := true }
def TunnelReadsUptoSaid : Prop := tunnelReadsUptoRow.holds Try.pinned (OpenSpec.upto tunnelReadsSpec)

/-- 'counterfoillaw09.TunnelTwice', WHERE WHAT IT READS IS OF BULK AT MOST 1048576: true; the input reads as it did. -/
def tunnelTwiceUptoRow : OpenClaim := { program := "ytilgolflpdpfnaa", sum := "e2e6c09c27daf376c083bef8008585f5d538b2a64d620ad46c6ed87bbe961e64", func := "counterfoil/counterfoillaw09.TunnelTwice", spec := "tunnelTwice", apart := false, narrowed := true }
def TunnelTwiceUptoSaid : Prop := tunnelTwiceUptoRow.holds Try.pinned (OpenSpec.upto tunnelTwiceSpec)

/-- 'counterfoillaw45.CaptureWrites', WHERE WHAT IT READS IS OF BULK AT MOST 1048576: true; the input reads as it did. -/
def captureWritesUptoRow : OpenClaim := { program := "ytilgolflpdpfnaa", sum := "e2e6c09c27daf376c083bef8008585f5d538b2a64d620ad46c6ed87bbe961e64", func := "counterfoil/counterfoillaw45.CaptureWrites", spec := "captureWrites", apart := false, narrowed := true }
def CaptureWritesUptoSaid : Prop := captureWritesUptoRow.holds Try.pinned (OpenSpec.upto captureWritesSpec)

/-- 'counterfoillaw11.RingKeys', WHERE WHAT IT READS IS OF BULK AT MOST 1048576: true; the input reads as it did. -/
def ringKeysUptoRow : OpenClaim := { program := "ytilgolflpdpfnaa", sum := "e2e6c09c27daf376c083bef8008585f5d538b2a64d620ad46c6ed87bbe961e64", func := "counterfoil/counterfoillaw11.RingKeys", spec := "ringKeys", apart := false, narrowed := true }
def RingKeysUptoSaid : Prop := ringKeysUptoRow.holds Try.pinned (OpenSpec.upto ringKeysSpec)

/-- 'counterfoillaw11.RingBytes', WHERE WHAT IT READS IS OF BULK AT MOST 1048576: true; the input reads as it did. -/
def ringBytesUptoRow : OpenClaim := { program := "ytilgolflpdpfnaa", sum := "e2e6c09c27daf376c083bef8008585f5d538b2a64d620ad46c6ed87bbe961e64", func := "counterfoil/counterfoillaw11.RingBytes", spec := "ringBytes", apart := false, narrowed := true }
def RingBytesUptoSaid : Prop := ringBytesUptoRow.holds Try.pinned (OpenSpec.upto ringBytesSpec)

/-- 'counterfoillaw11.RingKeeps', WHERE WHAT IT READS IS OF BULK AT MOST 1048576: true; the input reads as it did. -/
def ringKeepsUptoRow : OpenClaim := { program := "ytilgolflpdpfnaa", sum := "e2e6c09c27daf376c083bef8008585f5d538b2a64d620ad46c6ed87bbe961e64", func := "counterfoil/counterfoillaw11.RingKeeps", spec := "ringKeeps", apart := false, narrowed := true }
def RingKeepsUptoSaid : Prop := ringKeepsUptoRow.holds Try.pinned (OpenSpec.upto ringKeepsSpec)

/-- 'counterfoillaw13.CidMakes', WHERE WHAT IT READS IS OF BULK AT MOST 1048576: true; the input reads as it did. -/
def cidMakesUptoRow : OpenClaim := { program := "ytilgolflpdpfnaa", sum := "e2e6c09c27daf376c083bef8008585f5d538b2a64d620ad46c6ed87bbe961e64", func := "counterfoil/counterfoillaw13.CidMakes", spec := "cidMakes", apart := false, narrowed := true }
def CidMakesUptoSaid : Prop := cidMakesUptoRow.holds Try.pinned (OpenSpec.upto cidMakesSpec)

/-- 'counterfoillaw13.CidReads', WHERE WHAT IT READS IS OF BULK AT MOST 1048576: true; the input reads as it did. -/
def cidReadsUptoRow : OpenClaim := { program := "ytilgolflpdpfnaa", sum := "e2e6c09c27daf376c083bef8008585f5d538b2a64d620ad46c6ed87bbe961e64", func := "counterfoil/counterfoillaw13.CidReads", spec := "cidReads", apart := false, narrowed := true }
def CidReadsUptoSaid : Prop := cidReadsUptoRow.holds Try.pinned (OpenSpec.upto cidReadsSpec)

/-- 'counterfoillaw13.CidLeases', WHERE WHAT IT READS IS OF BULK AT MOST 1048576: true; the input reads as it did. -/
def cidLeasesUptoRow : OpenClaim := { program := "ytilgolflpdpfnaa", sum := "e2e6c09c27daf376c083bef8008585f5d538b2a64d620ad46c6ed87bbe961e64", func := "counterfoil/counterfoillaw13.CidLeases", spec := "cidLeases", apart := false, narrowed := true }
def CidLeasesUptoSaid : Prop := cidLeasesUptoRow.holds Try.pinned (OpenSpec.upto cidLeasesSpec)

/-- 'counterfoillaw12.CookieBack', WHERE WHAT IT READS IS OF BULK AT MOST 1048576: true; the input reads as it did. -/
def cookieBackUptoRow : OpenClaim := { program := "ytilgolflpdpfnaa", sum := "e2e6c09c27daf376c083bef8008585f5d538b2a64d620ad46c6ed87bbe961e64", func := "counterfoil/counterfoillaw12.CookieBack", spec := "cookieBack", apart := false, narrowed := true }
def CookieBackUptoSaid : Prop := cookieBackUptoRow.holds Try.pinned (OpenSpec.upto cookieBackSpec)

/-- 'counterfoillaw41.SpreadSums', WHERE WHAT IT READS IS OF BULK AT MOST 1048576: true; the input reads as it did. -/
def spreadSumsUptoRow : OpenClaim := { program := "ytilgolflpdpfnaa", sum := "e2e6c09c27daf376c083bef8008585f5d538b2a64d620ad46c6ed87bbe961e64", func := "counterfoil/counterfoillaw41.SpreadSums", spec := "spreadSums", apart := false, narrowed := true }
def SpreadSumsUptoSaid : Prop := spreadSumsUptoRow.holds Try.pinned (OpenSpec.upto spreadSumsSpec)

/-- 'counterfoillaw21.PolicyNames', WHERE WHAT IT READS IS OF BULK AT MOST 1048576: true; the input reads as it did. -/
def policyNamesUptoRow : OpenClaim := { program := "ytilgolflpdpfnaa", sum := "e2e6c09c27daf376c083bef8008585f5d538b2a64d620ad46c6ed87bbe961e64", func := "counterfoil/counterfoillaw21.PolicyNames", spec := "policyNames", apart := false, narrowed := true }
def PolicyNamesUptoSaid : Prop := policyNamesUptoRow.holds Try.pinned (OpenSpec.upto policyNamesSpec)

/-- 'counterfoillaw42.MaglevBuilds', WHERE WHAT IT READS IS OF BULK AT MOST 1048576: true; the input reads as it did. -/
def maglevBuildsUptoRow : OpenClaim := { program := "ytilgolflpdpfnaa", sum := "e2e6c09c27daf376c083bef8008585f5d538b2a64d620ad46c6ed87bbe961e64", func := "counterfoil/counterfoillaw42.MaglevBuilds", spec := "maglevBuilds", apart := false, narrowed := true }
def MaglevBuildsUptoSaid : Prop := maglevBuildsUptoRow.holds Try.pinned (OpenSpec.upto maglevBuildsSpec)

/-- 'counterfoillaw42.MaglevEven', WHERE WHAT IT READS IS OF BULK AT MOST 1048576: true; the input reads as it did. -/
def maglevEvenUptoRow : OpenClaim := { program := "ytilgolflpdpfnaa", sum := "e2e6c09c27daf376c083bef8008585f5d538b2a64d620ad46c6ed87bbe961e64", func := "counterfoil/counterfoillaw42.MaglevEven", spec := "maglevEven", apart := false, narrowed := true }
def MaglevEvenUptoSaid : Prop := maglevEvenUptoRow.holds Try.pinned (OpenSpec.upto maglevEvenSpec)

end Rows
end Go.Proofs.Ytilgolflpdpfnaa
