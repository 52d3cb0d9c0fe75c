/-
  No cell of these rows narrows 'for every input' (looked for: loops, veiled, ifaces, maps, wideKeys, modest, calm, conditions, laid).
  DERIVED. THE GIVEN ROWS OF THIS SEAT. 16 by the template 'for every input the law returns true; each argument reads behind the call as it read before'; 0 by the template 'total and deterministic' (their statements: YtchpcijmgnfkfaaTotals.lean).
  GIVEN WITH THE SEED: the statements are not yours to turn. If you find one false, say at which input.
  Laid BY PROGRAM, IN A SANDBOX (cutbox-rows.mjs): the forced cells as the released guide's own fill.sh prints them over the translation 438e50ecaa087d5a… (all of the seat's roots in one cut). By AI agents, Wed Nov 11 2026. No macro, syntax, notation, axiom, sorry.
-/
import Derived.Test.YtchpcijmgnfkfaaChecked
import GoSem.Claim
import GoSem.ClaimJoined
import GoSem.ClaimMapViews
import Derived.JoinedTies
import Derived.KernelRfl
namespace Go.Proofs.Ytchpcijmgnfkfaa
/- THE CELL 'sum', in the pinned program and in every row, IS THE sha256 OF THE DUMP (.gsa) THAT YtchpcijmgnfkfaaProg.lean LOADS. Nothing in Lean hashes anything: it is a label: what it is worth is what the hold of that sum in a sandbox is worth. -/
noncomputable def Try.pinned : Pinned := { name := "ytchpcijmgnfkfaa", sum := "438e50ecaa087d5a44a285584f8a61e9f91bfeba56f37634d943f240947b3b6b", checked := Try.checked }
namespace Rows
def none {H : Type} : Left H := { results := [], args := [] }

/-- 'counterfoillaw11.RingKeeps': WHATEVER THE INPUT: true; the input reads as it did. -/
def ringKeepsSpec : ChangeSpec := { name := "ringKeeps", fn := fun _ => fun
  | [d] => { results := [.lit (.bool true)], args := [d] }
  | _ => none }
def ringKeepsRow : OpenClaim := { program := "ytchpcijmgnfkfaa", sum := "438e50ecaa087d5a44a285584f8a61e9f91bfeba56f37634d943f240947b3b6b", func := "counterfoil/counterfoillaw11.RingKeeps", spec := "ringKeeps", plainKeys := false, apart := false }
def RingKeepsSaid : Prop := ringKeepsRow.holds Try.pinned (OpenSpec.ofChange ringKeepsSpec)

/-- ITS FALSE NEIGHBOUR: 'it returns false'. Refute it at one input. -/
def ringKeepsWrong : ChangeSpec := { name := "ringKeeps", fn := fun _ => fun
  | [d] => { results := [.lit (.bool false)], args := [d] }
  | _ => none }
def RingKeepsWrongFalsely : Prop := ringKeepsRow.holds Try.pinned (OpenSpec.ofChange ringKeepsWrong)

/-- 'counterfoillaw08.IcmpBig': WHATEVER THE INPUT: true; the input reads as it did. -/
def icmpBigSpec : ChangeSpec := { name := "icmpBig", fn := fun _ => fun
  | [d1, d2, d3] => { results := [.lit (.bool true)], args := [d1, d2, d3] }
  | _ => none }
def icmpBigRow : OpenClaim := { program := "ytchpcijmgnfkfaa", sum := "438e50ecaa087d5a44a285584f8a61e9f91bfeba56f37634d943f240947b3b6b", func := "counterfoil/counterfoillaw08.IcmpBig", spec := "icmpBig", plainKeys := false, apart := false }
def IcmpBigSaid : Prop := icmpBigRow.holds Try.pinned (OpenSpec.ofChange icmpBigSpec)

/-- ITS FALSE NEIGHBOUR: 'it returns false'. Refute it at one input. -/
def icmpBigWrong : ChangeSpec := { name := "icmpBig", fn := fun _ => fun
  | [d1, d2, d3] => { results := [.lit (.bool false)], args := [d1, d2, d3] }
  | _ => none }
def IcmpBigWrongFalsely : Prop := icmpBigRow.holds Try.pinned (OpenSpec.ofChange icmpBigWrong)

/-- 'counterfoillaw43.MeterHists': WHATEVER THE INPUT: true; the input reads as it did. -/
def meterHistsSpec : ChangeSpec := { name := "meterHists", fn := fun _ => fun
  | [d1, d2, d3] => { results := [.lit (.bool true)], args := [d1, d2, d3] }
  | _ => none }
def meterHistsRow : OpenClaim := { program := "ytchpcijmgnfkfaa", sum := "438e50ecaa087d5a44a285584f8a61e9f91bfeba56f37634d943f240947b3b6b", func := "counterfoil/counterfoillaw43.MeterHists", spec := "meterHists", plainKeys := false, apart := false }
def MeterHistsSaid : Prop := meterHistsRow.holds Try.pinned (OpenSpec.ofChange meterHistsSpec)

/-- ITS FALSE NEIGHBOUR: 'it returns false'. Refute it at one input. -/
def meterHistsWrong : ChangeSpec := { name := "meterHists", fn := fun _ => fun
  | [d1, d2, d3] => { results := [.lit (.bool false)], args := [d1, d2, d3] }
  | _ => none }
def MeterHistsWrongFalsely : Prop := meterHistsRow.holds Try.pinned (OpenSpec.ofChange meterHistsWrong)

/-- 'counterfoillaw41.SpreadPlaces': WHATEVER THE INPUT: true; the input reads as it did. -/
def spreadPlacesSpec : ChangeSpec := { name := "spreadPlaces", fn := fun _ => fun
  | [d1, d2, d3, d4, d5] => { results := [.lit (.bool true)], args := [d1, d2, d3, d4, d5] }
  | _ => none }
def spreadPlacesRow : OpenClaim := { program := "ytchpcijmgnfkfaa", sum := "438e50ecaa087d5a44a285584f8a61e9f91bfeba56f37634d943f240947b3b6b", func := "counterfoil/counterfoillaw41.SpreadPlaces", spec := "spreadPlaces", plainKeys := false, apart := false }
def SpreadPlacesSaid : Prop := spreadPlacesRow.holds Try.pinned (OpenSpec.ofChange spreadPlacesSpec)

/-- ITS FALSE NEIGHBOUR: 'it returns false'. Refute it at one input. -/
def spreadPlacesWrong : ChangeSpec := { name := "spreadPlaces", fn := fun _ => fun
  | [d1, d2, d3, d4, d5] => { results := [.lit (.bool false)], args := [d1, d2, d3, d4, d5] }
  | _ => none }
def SpreadPlacesWrongFalsely : Prop := spreadPlacesRow.holds Try.pinned (OpenSpec.ofChange spreadPlacesWrong)

/-- 'counterfoillaw41.SpreadSums': WHATEVER THE INPUT: true; the input reads as it did. -/
def spreadSumsSpec : ChangeSpec := { name := "spreadSums", fn := fun _ => fun
  | [d1, d2, d3] => { results := [.lit (.bool true)], args := [d1, d2, d3] }
  | _ => none }
def spreadSumsRow : OpenClaim := { program := "ytchpcijmgnfkfaa", sum := "438e50ecaa087d5a44a285584f8a61e9f91bfeba56f37634d943f240947b3b6b", func := "counterfoil/counterfoillaw41.SpreadSums", spec := "spreadSums", plainKeys := false, apart := false }
def SpreadSumsSaid : Prop := spreadSumsRow.holds Try.pinned (OpenSpec.ofChange spreadSumsSpec)

/-- ITS FALSE NEIGHBOUR: 'it returns false'. Refute it at one input. -/
def spreadSumsWrong : ChangeSpec := { name := "spreadSums", fn := fun _ => fun
  | [d1, d2, d3] => { results := [.lit (.bool false)], args := [d1, d2, d3] }
  | _ => none }
def SpreadSumsWrongFalsely : Prop := spreadSumsRow.holds Try.pinned (OpenSpec.ofChange spreadSumsWrong)

/-- 'counterfoillaw11.RingKeys': WHATEVER THE INPUT: true; the input reads as it did. -/
def ringKeysSpec : ChangeSpec := { name := "ringKeys", fn := fun _ => fun
  | [d1, d2] => { results := [.lit (.bool true)], args := [d1, d2] }
  | _ => none }
def ringKeysRow : OpenClaim := { program := "ytchpcijmgnfkfaa", sum := "438e50ecaa087d5a44a285584f8a61e9f91bfeba56f37634d943f240947b3b6b", func := "counterfoil/counterfoillaw11.RingKeys", spec := "ringKeys", plainKeys := false, apart := false }
def RingKeysSaid : Prop := ringKeysRow.holds Try.pinned (OpenSpec.ofChange ringKeysSpec)

/-- ITS FALSE NEIGHBOUR: 'it returns false'. Refute it at one input. -/
def ringKeysWrong : ChangeSpec := { name := "ringKeys", fn := fun _ => fun
  | [d1, d2] => { results := [.lit (.bool false)], args := [d1, d2] }
  | _ => none }
def RingKeysWrongFalsely : Prop := ringKeysRow.holds Try.pinned (OpenSpec.ofChange ringKeysWrong)

/-- 'counterfoillaw11.RingBytes': WHATEVER THE INPUT: true; the input reads as it did. -/
def ringBytesSpec : ChangeSpec := { name := "ringBytes", fn := fun _ => fun
  | [d1, d2] => { results := [.lit (.bool true)], args := [d1, d2] }
  | _ => none }
def ringBytesRow : OpenClaim := { program := "ytchpcijmgnfkfaa", sum := "438e50ecaa087d5a44a285584f8a61e9f91bfeba56f37634d943f240947b3b6b", func := "counterfoil/counterfoillaw11.RingBytes", spec := "ringBytes", plainKeys := false, apart := false }
def RingBytesSaid : Prop := ringBytesRow.holds Try.pinned (OpenSpec.ofChange ringBytesSpec)

/-- ITS FALSE NEIGHBOUR: 'it returns false'. Refute it at one input. -/
def ringBytesWrong : ChangeSpec := { name := "ringBytes", fn := fun _ => fun
  | [d1, d2] => { results := [.lit (.bool false)], args := [d1, d2] }
  | _ => none }
def RingBytesWrongFalsely : Prop := ringBytesRow.holds Try.pinned (OpenSpec.ofChange ringBytesWrong)

/-- 'counterfoillaw19.SmoothShares': WHATEVER THE INPUT: true; the input reads as it did. -/
def smoothSharesSpec : ChangeSpec := { name := "smoothShares", fn := fun _ => fun
  | [d1, d2] => { results := [.lit (.bool true)], args := [d1, d2] }
  | _ => none }
def smoothSharesRow : OpenClaim := { program := "ytchpcijmgnfkfaa", sum := "438e50ecaa087d5a44a285584f8a61e9f91bfeba56f37634d943f240947b3b6b", func := "counterfoil/counterfoillaw19.SmoothShares", spec := "smoothShares", plainKeys := false, apart := false }
def SmoothSharesSaid : Prop := smoothSharesRow.holds Try.pinned (OpenSpec.ofChange smoothSharesSpec)

/-- ITS FALSE NEIGHBOUR: 'it returns false'. Refute it at one input. -/
def smoothSharesWrong : ChangeSpec := { name := "smoothShares", fn := fun _ => fun
  | [d1, d2] => { results := [.lit (.bool false)], args := [d1, d2] }
  | _ => none }
def SmoothSharesWrongFalsely : Prop := smoothSharesRow.holds Try.pinned (OpenSpec.ofChange smoothSharesWrong)

/-- 'counterfoillaw19.SmoothPicks': WHATEVER THE INPUT: true; the input reads as it did. -/
def smoothPicksSpec : ChangeSpec := { name := "smoothPicks", fn := fun _ => fun
  | [d1, d2] => { results := [.lit (.bool true)], args := [d1, d2] }
  | _ => none }
def smoothPicksRow : OpenClaim := { program := "ytchpcijmgnfkfaa", sum := "438e50ecaa087d5a44a285584f8a61e9f91bfeba56f37634d943f240947b3b6b", func := "counterfoil/counterfoillaw19.SmoothPicks", spec := "smoothPicks", plainKeys := false, apart := false }
def SmoothPicksSaid : Prop := smoothPicksRow.holds Try.pinned (OpenSpec.ofChange smoothPicksSpec)

/-- ITS FALSE NEIGHBOUR: 'it returns false'. Refute it at one input. -/
def smoothPicksWrong : ChangeSpec := { name := "smoothPicks", fn := fun _ => fun
  | [d1, d2] => { results := [.lit (.bool false)], args := [d1, d2] }
  | _ => none }
def SmoothPicksWrongFalsely : Prop := smoothPicksRow.holds Try.pinned (OpenSpec.ofChange smoothPicksWrong)

/-- 'counterfoillaw31.ConnsKeep': WHATEVER THE INPUT: true; the input reads as it did. -/
def connsKeepSpec : ChangeSpec := { name := "connsKeep", fn := fun _ => fun
  | [d1, d2, d3, d4] => { results := [.lit (.bool true)], args := [d1, d2, d3, d4] }
  | _ => none }
def connsKeepRow : OpenClaim := { program := "ytchpcijmgnfkfaa", sum := "438e50ecaa087d5a44a285584f8a61e9f91bfeba56f37634d943f240947b3b6b", func := "counterfoil/counterfoillaw31.ConnsKeep", spec := "connsKeep", plainKeys := false, apart := false }
def ConnsKeepSaid : Prop := connsKeepRow.holds Try.pinned (OpenSpec.ofChange connsKeepSpec)

/-- ITS FALSE NEIGHBOUR: 'it returns false'. Refute it at one input. -/
def connsKeepWrong : ChangeSpec := { name := "connsKeep", fn := fun _ => fun
  | [d1, d2, d3, d4] => { results := [.lit (.bool false)], args := [d1, d2, d3, d4] }
  | _ => none }
def ConnsKeepWrongFalsely : Prop := connsKeepRow.holds Try.pinned (OpenSpec.ofChange connsKeepWrong)

/-- 'counterfoillaw31.ConnsPlay': WHATEVER THE INPUT: true; the input reads as it did. -/
def connsPlaySpec : ChangeSpec := { name := "connsPlay", fn := fun _ => fun
  | [d1, d2, d3] => { results := [.lit (.bool true)], args := [d1, d2, d3] }
  | _ => none }
def connsPlayRow : OpenClaim := { program := "ytchpcijmgnfkfaa", sum := "438e50ecaa087d5a44a285584f8a61e9f91bfeba56f37634d943f240947b3b6b", func := "counterfoil/counterfoillaw31.ConnsPlay", spec := "connsPlay", plainKeys := false, apart := false }
def ConnsPlaySaid : Prop := connsPlayRow.holds Try.pinned (OpenSpec.ofChange connsPlaySpec)

/-- ITS FALSE NEIGHBOUR: 'it returns false'. Refute it at one input. -/
def connsPlayWrong : ChangeSpec := { name := "connsPlay", fn := fun _ => fun
  | [d1, d2, d3] => { results := [.lit (.bool false)], args := [d1, d2, d3] }
  | _ => none }
def ConnsPlayWrongFalsely : Prop := connsPlayRow.holds Try.pinned (OpenSpec.ofChange connsPlayWrong)

/-- 'counterfoillaw34.MailClears': WHATEVER THE INPUT: true; the input reads as it did. -/
def mailClearsSpec : ChangeSpec := { name := "mailClears", fn := fun _ => fun
  | [d1, d2] => { results := [.lit (.bool true)], args := [d1, d2] }
  | _ => none }
def mailClearsRow : OpenClaim := { program := "ytchpcijmgnfkfaa", sum := "438e50ecaa087d5a44a285584f8a61e9f91bfeba56f37634d943f240947b3b6b", func := "counterfoil/counterfoillaw34.MailClears", spec := "mailClears", plainKeys := false, apart := false }
def MailClearsSaid : Prop := mailClearsRow.holds Try.pinned (OpenSpec.ofChange mailClearsSpec)

/-- ITS FALSE NEIGHBOUR: 'it returns false'. Refute it at one input. -/
def mailClearsWrong : ChangeSpec := { name := "mailClears", fn := fun _ => fun
  | [d1, d2] => { results := [.lit (.bool false)], args := [d1, d2] }
  | _ => none }
def MailClearsWrongFalsely : Prop := mailClearsRow.holds Try.pinned (OpenSpec.ofChange mailClearsWrong)

/-- 'counterfoillaw34.MailPlays': WHATEVER THE INPUT: true; the input reads as it did. -/
def mailPlaysSpec : ChangeSpec := { name := "mailPlays", fn := fun _ => fun
  | [d1, d2] => { results := [.lit (.bool true)], args := [d1, d2] }
  | _ => none }
def mailPlaysRow : OpenClaim := { program := "ytchpcijmgnfkfaa", sum := "438e50ecaa087d5a44a285584f8a61e9f91bfeba56f37634d943f240947b3b6b", func := "counterfoil/counterfoillaw34.MailPlays", spec := "mailPlays", plainKeys := false, apart := false }
def MailPlaysSaid : Prop := mailPlaysRow.holds Try.pinned (OpenSpec.ofChange mailPlaysSpec)

/-- ITS FALSE NEIGHBOUR: 'it returns false'. Refute it at one input. -/
def mailPlaysWrong : ChangeSpec := { name := "mailPlays", fn := fun _ => fun
  | [d1, d2] => { results := [.lit (.bool false)], args := [d1, d2] }
  | _ => none }
def MailPlaysWrongFalsely : Prop := mailPlaysRow.holds Try.pinned (OpenSpec.ofChange mailPlaysWrong)

/-- 'counterfoillaw24.DiskKeeps': WHATEVER THE INPUT: true; the input reads as it did. -/
def diskKeepsSpec : ChangeSpec := { name := "diskKeeps", fn := fun _ => fun
  | [d1, d2, d3, d4] => { results := [.lit (.bool true)], args := [d1, d2, d3, d4] }
  | _ => none }
def diskKeepsRow : OpenClaim := { program := "ytchpcijmgnfkfaa", sum := "438e50ecaa087d5a44a285584f8a61e9f91bfeba56f37634d943f240947b3b6b", func := "counterfoil/counterfoillaw24.DiskKeeps", spec := "diskKeeps", plainKeys := false, apart := false }
def DiskKeepsSaid : Prop := diskKeepsRow.holds Try.pinned (OpenSpec.ofChange diskKeepsSpec)

/-- ITS FALSE NEIGHBOUR: 'it returns false'. Refute it at one input. -/
def diskKeepsWrong : ChangeSpec := { name := "diskKeeps", fn := fun _ => fun
  | [d1, d2, d3, d4] => { results := [.lit (.bool false)], args := [d1, d2, d3, d4] }
  | _ => none }
def DiskKeepsWrongFalsely : Prop := diskKeepsRow.holds Try.pinned (OpenSpec.ofChange diskKeepsWrong)

/-- 'counterfoillaw44.OptionWrites': WHATEVER THE INPUT: true; the input reads as it did. -/
def optionWritesSpec : ChangeSpec := { name := "optionWrites", fn := fun _ => fun
  | [d] => { results := [.lit (.bool true)], args := [d] }
  | _ => none }
def optionWritesRow : OpenClaim := { program := "ytchpcijmgnfkfaa", sum := "438e50ecaa087d5a44a285584f8a61e9f91bfeba56f37634d943f240947b3b6b", func := "counterfoil/counterfoillaw44.OptionWrites", spec := "optionWrites", unfollowed := true, recurses := true, plainKeys := false, apart := false }
def OptionWritesSaid : Prop := optionWritesRow.holds Try.pinned (OpenSpec.ofChange optionWritesSpec)

/-- ITS FALSE NEIGHBOUR: 'it returns false'. Refute it at one input. -/
def optionWritesWrong : ChangeSpec := { name := "optionWrites", fn := fun _ => fun
  | [d] => { results := [.lit (.bool false)], args := [d] }
  | _ => none }
def OptionWritesWrongFalsely : Prop := optionWritesRow.holds Try.pinned (OpenSpec.ofChange optionWritesWrong)

/-- 'counterfoillaw06.TcpStamps': WHATEVER THE INPUT: true; the input reads as it did. -/
def tcpStampsSpec : ChangeSpec := { name := "tcpStamps", fn := fun _ => fun
  | [d] => { results := [.lit (.bool true)], args := [d] }
  | _ => none }
def tcpStampsRow : OpenClaim := { program := "ytchpcijmgnfkfaa", sum := "438e50ecaa087d5a44a285584f8a61e9f91bfeba56f37634d943f240947b3b6b", func := "counterfoil/counterfoillaw06.TcpStamps", spec := "tcpStamps", plainKeys := false, apart := false }
def TcpStampsSaid : Prop := tcpStampsRow.holds Try.pinned (OpenSpec.ofChange tcpStampsSpec)

/-- ITS FALSE NEIGHBOUR: 'it returns false'. Refute it at one input. -/
def tcpStampsWrong : ChangeSpec := { name := "tcpStamps", fn := fun _ => fun
  | [d] => { results := [.lit (.bool false)], args := [d] }
  | _ => none }
def TcpStampsWrongFalsely : Prop := tcpStampsRow.holds Try.pinned (OpenSpec.ofChange tcpStampsWrong)

/- THE SECOND FORM. 'bulk': how many values and letters a reading holds, each counted each time it is reached (what is shared counts as often as it is met; a slice's spare places count too). A statement '..UptoSaid' is the law's where the arguments, and the package variables that the reading takes, are together of bulk at most 1048576: NARROWER than '..Said'. Prove '..Said' where nothing that the law and all that it calls make is longer than what came in: it says more and counts as full. Else prove '..UptoSaid'. A law counts once. -/
mutual
def uptoBulk {H : Type} : DataW H → Nat
  | .lit (.string bytes) => bytes.length + 1
  | .lit _ => 1
  | .nil => 1
  | .ptr d => uptoBulk d + 1
  | .slice elems spare => uptoBulkAll elems + uptoBulkAll spare + 1
  | .agg parts => uptoBulkAll parts + 1
  | .iface _ d => uptoBulk d + 1
  | .map entries => uptoBulkEntries entries + 1
  | .held _ => 1
def uptoBulkAll {H : Type} : List (DataW H) → Nat
  | [] => 0
  | d :: r => uptoBulk d + uptoBulkAll r
def uptoBulkEntries {H : Type} : List (Lit × DataW H) → Nat
  | [] => 0
  | x :: r => uptoBulkEntry x + uptoBulkEntries r
def uptoBulkEntry {H : Type} : Lit × DataW H → Nat
  | (.string bytes, d) => bytes.length + uptoBulk d + 1
  | (_, d) => uptoBulk d + 1
 end
def uptoSmall : (H : Type) → List (DataW H) → Bool := fun _ ds => decide (uptoBulkAll ds ≤ 1048576)
def OpenSpec.upto (s : _root_.Go.ChangeSpec) : _root_.Go.OpenSpec := { _root_.Go.OpenSpec.ofChange s with cond := some uptoSmall }

/-- 'counterfoillaw11.RingKeeps', WHERE WHAT IT READS IS OF BULK AT MOST 1048576: true; the input reads as it did. -/
def ringKeepsUptoRow : OpenClaim := { program := "ytchpcijmgnfkfaa", sum := "438e50ecaa087d5a44a285584f8a61e9f91bfeba56f37634d943f240947b3b6b", func := "counterfoil/counterfoillaw11.RingKeeps", spec := "ringKeeps", plainKeys := false, apart := false, narrowed := true }
def RingKeepsUptoSaid : Prop := ringKeepsUptoRow.holds Try.pinned (OpenSpec.upto ringKeepsSpec)

/-- 'counterfoillaw08.IcmpBig', WHERE WHAT IT READS IS OF BULK AT MOST 1048576: true; the input reads as it did. -/
def icmpBigUptoRow : OpenClaim := { program := "ytchpcijmgnfkfaa", sum := "438e50ecaa087d5a44a285584f8a61e9f91bfeba56f37634d943f240947b3b6b", func := "counterfoil/counterfoillaw08.IcmpBig", spec := "icmpBig", plainKeys := false, apart := false, narrowed := true }
def IcmpBigUptoSaid : Prop := icmpBigUptoRow.holds Try.pinned (OpenSpec.upto icmpBigSpec)

/-- 'counterfoillaw43.MeterHists', WHERE WHAT IT READS IS OF BULK AT MOST 1048576: true; the input reads as it did. -/
def meterHistsUptoRow : OpenClaim := { program := "ytchpcijmgnfkfaa", sum := "438e50ecaa087d5a44a285584f8a61e9f91bfeba56f37634d943f240947b3b6b", func := "counterfoil/counterfoillaw43.MeterHists", spec := "meterHists", plainKeys := false, apart := false, narrowed := true }
def MeterHistsUptoSaid : Prop := meterHistsUptoRow.holds Try.pinned (OpenSpec.upto meterHistsSpec)

/-- 'counterfoillaw41.SpreadPlaces', WHERE WHAT IT READS IS OF BULK AT MOST 1048576: true; the input reads as it did. -/
def spreadPlacesUptoRow : OpenClaim := { program := "ytchpcijmgnfkfaa", sum := "438e50ecaa087d5a44a285584f8a61e9f91bfeba56f37634d943f240947b3b6b", func := "counterfoil/counterfoillaw41.SpreadPlaces", spec := "spreadPlaces", plainKeys := false, apart := false, narrowed := true }
def SpreadPlacesUptoSaid : Prop := spreadPlacesUptoRow.holds Try.pinned (OpenSpec.upto spreadPlacesSpec)

/-- 'counterfoillaw41.SpreadSums', WHERE WHAT IT READS IS OF BULK AT MOST 1048576: true; the input reads as it did. -/
def spreadSumsUptoRow : OpenClaim := { program := "ytchpcijmgnfkfaa", sum := "438e50ecaa087d5a44a285584f8a61e9f91bfeba56f37634d943f240947b3b6b", func := "counterfoil/counterfoillaw41.SpreadSums", spec := "spreadSums", plainKeys := false, apart := false, narrowed := true }
def SpreadSumsUptoSaid : Prop := spreadSumsUptoRow.holds Try.pinned (OpenSpec.upto spreadSumsSpec)

/-- 'counterfoillaw11.RingKeys', WHERE WHAT IT READS IS OF BULK AT MOST 1048576: true; the input reads as it did. -/
def ringKeysUptoRow : OpenClaim := { program := "ytchpcijmgnfkfaa", sum := "438e50ecaa087d5a44a285584f8a61e9f91bfeba56f37634d943f240947b3b6b", func := "counterfoil/counterfoillaw11.RingKeys", spec := "ringKeys", plainKeys := false, apart := false, narrowed := true }
def RingKeysUptoSaid : Prop := ringKeysUptoRow.holds Try.pinned (OpenSpec.upto ringKeysSpec)

/-- 'counterfoillaw11.RingBytes', WHERE WHAT IT READS IS OF BULK AT MOST 1048576: true; the input reads as it did. -/
def ringBytesUptoRow : OpenClaim := { program := "ytchpcijmgnfkfaa", sum := "438e50ecaa087d5a44a285584f8a61e9f91bfeba56f37634d943f240947b3b6b", func := "counterfoil/counterfoillaw11.RingBytes", spec := "ringBytes", plainKeys := false, apart := false, narrowed := true }
def RingBytesUptoSaid : Prop := ringBytesUptoRow.holds Try.pinned (OpenSpec.upto ringBytesSpec)

/-- 'counterfoillaw19.SmoothShares', WHERE WHAT IT READS IS OF BULK AT MOST 1048576: true; the input reads as it did. -/
def smoothSharesUptoRow : OpenClaim := { program := "ytchpcijmgnfkfaa", sum := "438e50ecaa087d5a44a285584f8a61e9f91bfeba56f37634d943f240947b3b6b", func := "counterfoil/counterfoillaw19.SmoothShares", spec := "smoothShares", plainKeys := false, apart := false, narrowed := true }
def SmoothSharesUptoSaid : Prop := smoothSharesUptoRow.holds Try.pinned (OpenSpec.upto smoothSharesSpec)

/-- 'counterfoillaw19.SmoothPicks', WHERE WHAT IT READS IS OF BULK AT MOST 1048576: true; the input reads as it did. -/
def smoothPicksUptoRow : OpenClaim := { program := "ytchpcijmgnfkfaa", sum := "438e50ecaa087d5a44a285584f8a61e9f91bfeba56f37634d943f240947b3b6b", func := "counterfoil/counterfoillaw19.SmoothPicks", spec := "smoothPicks", plainKeys := false, apart := false, narrowed := true }
def SmoothPicksUptoSaid : Prop := smoothPicksUptoRow.holds Try.pinned (OpenSpec.upto smoothPicksSpec)

/-- 'counterfoillaw31.ConnsKeep', WHERE WHAT IT READS IS OF BULK AT MOST 1048576: true; the input reads as it did. -/
def connsKeepUptoRow : OpenClaim := { program := "ytchpcijmgnfkfaa", sum := "438e50ecaa087d5a44a285584f8a61e9f91bfeba56f37634d943f240947b3b6b", func := "counterfoil/counterfoillaw31.ConnsKeep", spec := "connsKeep", plainKeys := false, apart := false, narrowed := true }
def ConnsKeepUptoSaid : Prop := connsKeepUptoRow.holds Try.pinned (OpenSpec.upto connsKeepSpec)

/-- 'counterfoillaw31.ConnsPlay', WHERE WHAT IT READS IS OF BULK AT MOST 1048576: true; the input reads as it did. -/
def connsPlayUptoRow : OpenClaim := { program := "ytchpcijmgnfkfaa", sum := "438e50ecaa087d5a44a285584f8a61e9f91bfeba56f37634d943f240947b3b6b", func := "counterfoil/counterfoillaw31.ConnsPlay", spec := "connsPlay", plainKeys := false, apart := false, narrowed := true }
def ConnsPlayUptoSaid : Prop := connsPlayUptoRow.holds Try.pinned (OpenSpec.upto connsPlaySpec)

/-- 'counterfoillaw34.MailClears', WHERE WHAT IT READS IS OF BULK AT MOST 1048576: true; the input reads as it did. -/
def mailClearsUptoRow : OpenClaim := { program := "ytchpcijmgnfkfaa", sum := "438e50ecaa087d5a44a285584f8a61e9f91bfeba56f37634d943f240947b3b6b", func := "counterfoil/counterfoillaw34.MailClears", spec := "mailClears", plainKeys := false, apart := false, narrowed := true }
def MailClearsUptoSaid : Prop := mailClearsUptoRow.holds Try.pinned (OpenSpec.upto mailClearsSpec)

/-- 'counterfoillaw34.MailPlays', WHERE WHAT IT READS IS OF BULK AT MOST 1048576: true; the input reads as it did. -/
def mailPlaysUptoRow : OpenClaim := { program := "ytchpcijmgnfkfaa", sum := "438e50ecaa087d5a44a285584f8a61e9f91bfeba56f37634d943f240947b3b6b", func := "counterfoil/counterfoillaw34.MailPlays", spec := "mailPlays", plainKeys := false, apart := false, narrowed := true }
def MailPlaysUptoSaid : Prop := mailPlaysUptoRow.holds Try.pinned (OpenSpec.upto mailPlaysSpec)

/-- 'counterfoillaw24.DiskKeeps', WHERE WHAT IT READS IS OF BULK AT MOST 1048576: true; the input reads as it did. -/
def diskKeepsUptoRow : OpenClaim := { program := "ytchpcijmgnfkfaa", sum := "438e50ecaa087d5a44a285584f8a61e9f91bfeba56f37634d943f240947b3b6b", func := "counterfoil/counterfoillaw24.DiskKeeps", spec := "diskKeeps", plainKeys := false, apart := false, narrowed := true }
def DiskKeepsUptoSaid : Prop := diskKeepsUptoRow.holds Try.pinned (OpenSpec.upto diskKeepsSpec)

/-- 'counterfoillaw44.OptionWrites', WHERE WHAT IT READS IS OF BULK AT MOST 1048576: true; the input reads as it did. -/
def optionWritesUptoRow : OpenClaim := { program := "ytchpcijmgnfkfaa", sum := "438e50ecaa087d5a44a285584f8a61e9f91bfeba56f37634d943f240947b3b6b", func := "counterfoil/counterfoillaw44.OptionWrites", spec := "optionWrites", unfollowed := true, recurses := true, plainKeys := false, apart := false, narrowed := true }
def OptionWritesUptoSaid : Prop := optionWritesUptoRow.holds Try.pinned (OpenSpec.upto optionWritesSpec)

/-- 'counterfoillaw06.TcpStamps', WHERE WHAT IT READS IS OF BULK AT MOST 1048576: true; the input reads as it did. -/
def tcpStampsUptoRow : OpenClaim := { program := "ytchpcijmgnfkfaa", sum := "438e50ecaa087d5a44a285584f8a61e9f91bfeba56f37634d943f240947b3b6b", func := "counterfoil/counterfoillaw06.TcpStamps", spec := "tcpStamps", plainKeys := false, apart := false, narrowed := true }
def TcpStampsUptoSaid : Prop := tcpStampsUptoRow.holds Try.pinned (OpenSpec.upto tcpStampsSpec)

end Rows
end Go.Proofs.Ytchpcijmgnfkfaa
