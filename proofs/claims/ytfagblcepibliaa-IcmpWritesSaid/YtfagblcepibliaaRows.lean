/-
  No cell of these rows narrows 'for every input' (looked for: loops, veiled, ifaces, maps, wideKeys, modest, calm, conditions, laid).
  DERIVED. THE GIVEN ROWS OF THIS SEAT. 16 by the template 'for every input the law returns true; each argument reads behind the call as it read before'; 0 by the template 'total and deterministic' (their statements: YtfagblcepibliaaTotals.lean).
  GIVEN WITH THE SEED: the statements are not yours to turn. If you find one false, say at which input.
  Laid BY PROGRAM, IN A SANDBOX (cutbox-rows.mjs): the forced cells as the released guide's own fill.sh prints them over the translation e1f0937a14769e68… (all of the seat's roots in one cut). By AI agents, Wed Nov 11 2026. No macro, syntax, notation, axiom, sorry.
-/
import Derived.Test.YtfagblcepibliaaChecked
import GoSem.Claim
import GoSem.ClaimJoined
import GoSem.ClaimMapViews
import Derived.JoinedTies
import Derived.KernelRfl
namespace Go.Proofs.Ytfagblcepibliaa
/- THE CELL 'sum', in the pinned program and in every row, IS THE sha256 OF THE DUMP (.gsa) THAT YtfagblcepibliaaProg.lean LOADS. Nothing in Lean hashes anything: it is a label: what it is worth is what the hold of that sum in a sandbox is worth. -/
noncomputable def Try.pinned : Pinned := { name := "ytfagblcepibliaa", sum := "e1f0937a14769e683d90f906dc5abe1a59a236fb78740f2bba25f7e31f3f2b5e", checked := Try.checked }
namespace Rows
def none {H : Type} : Left H := { results := [], args := [] }

/-- 'counterfoillaw04.Ip4Reads': WHATEVER THE INPUT: true; the input reads as it did. -/
def ip4ReadsSpec : ChangeSpec := { name := "ip4Reads", fn := fun _ => fun
  | [d] => { results := [.lit (.bool true)], args := [d] }
  | _ => none }
def ip4ReadsRow : OpenClaim := { program := "ytfagblcepibliaa", sum := "e1f0937a14769e683d90f906dc5abe1a59a236fb78740f2bba25f7e31f3f2b5e", func := "counterfoil/counterfoillaw04.Ip4Reads", spec := "ip4Reads", apart := false }
def Ip4ReadsSaid : Prop := ip4ReadsRow.holds Try.pinned (OpenSpec.ofChange ip4ReadsSpec)

/-- ITS FALSE NEIGHBOUR: 'it returns false'. Refute it at one input. -/
def ip4ReadsWrong : ChangeSpec := { name := "ip4Reads", fn := fun _ => fun
  | [d] => { results := [.lit (.bool false)], args := [d] }
  | _ => none }
def Ip4ReadsWrongFalsely : Prop := ip4ReadsRow.holds Try.pinned (OpenSpec.ofChange ip4ReadsWrong)

/-- 'counterfoillaw04.Ip4Writes': WHATEVER THE INPUT: true; the input reads as it did. -/
def ip4WritesSpec : ChangeSpec := { name := "ip4Writes", fn := fun _ => fun
  | [d1, d2] => { results := [.lit (.bool true)], args := [d1, d2] }
  | _ => none }
def ip4WritesRow : OpenClaim := { program := "ytfagblcepibliaa", sum := "e1f0937a14769e683d90f906dc5abe1a59a236fb78740f2bba25f7e31f3f2b5e", func := "counterfoil/counterfoillaw04.Ip4Writes", spec := "ip4Writes", apart := false }
def Ip4WritesSaid : Prop := ip4WritesRow.holds Try.pinned (OpenSpec.ofChange ip4WritesSpec)

/-- ITS FALSE NEIGHBOUR: 'it returns false'. Refute it at one input. -/
def ip4WritesWrong : ChangeSpec := { name := "ip4Writes", fn := fun _ => fun
  | [d1, d2] => { results := [.lit (.bool false)], args := [d1, d2] }
  | _ => none }
def Ip4WritesWrongFalsely : Prop := ip4WritesRow.holds Try.pinned (OpenSpec.ofChange ip4WritesWrong)

/-- 'counterfoillaw04.Ip4Long': WHATEVER THE INPUT: true; the input reads as it did. -/
def ip4LongSpec : ChangeSpec := { name := "ip4Long", fn := fun _ => fun
  | [d1, d2] => { results := [.lit (.bool true)], args := [d1, d2] }
  | _ => none }
def ip4LongRow : OpenClaim := { program := "ytfagblcepibliaa", sum := "e1f0937a14769e683d90f906dc5abe1a59a236fb78740f2bba25f7e31f3f2b5e", func := "counterfoil/counterfoillaw04.Ip4Long", spec := "ip4Long", apart := false }
def Ip4LongSaid : Prop := ip4LongRow.holds Try.pinned (OpenSpec.ofChange ip4LongSpec)

/-- ITS FALSE NEIGHBOUR: 'it returns false'. Refute it at one input. -/
def ip4LongWrong : ChangeSpec := { name := "ip4Long", fn := fun _ => fun
  | [d1, d2] => { results := [.lit (.bool false)], args := [d1, d2] }
  | _ => none }
def Ip4LongWrongFalsely : Prop := ip4LongRow.holds Try.pinned (OpenSpec.ofChange ip4LongWrong)

/-- 'counterfoillaw05.Ip6Writes': WHATEVER THE INPUT: true; the input reads as it did. -/
def ip6WritesSpec : ChangeSpec := { name := "ip6Writes", fn := fun _ => fun
  | [d1, d2] => { results := [.lit (.bool true)], args := [d1, d2] }
  | _ => none }
def ip6WritesRow : OpenClaim := { program := "ytfagblcepibliaa", sum := "e1f0937a14769e683d90f906dc5abe1a59a236fb78740f2bba25f7e31f3f2b5e", func := "counterfoil/counterfoillaw05.Ip6Writes", spec := "ip6Writes", apart := false }
def Ip6WritesSaid : Prop := ip6WritesRow.holds Try.pinned (OpenSpec.ofChange ip6WritesSpec)

/-- ITS FALSE NEIGHBOUR: 'it returns false'. Refute it at one input. -/
def ip6WritesWrong : ChangeSpec := { name := "ip6Writes", fn := fun _ => fun
  | [d1, d2] => { results := [.lit (.bool false)], args := [d1, d2] }
  | _ => none }
def Ip6WritesWrongFalsely : Prop := ip6WritesRow.holds Try.pinned (OpenSpec.ofChange ip6WritesWrong)

/-- 'counterfoillaw06.TcpReads': WHATEVER THE INPUT: true; the input reads as it did. -/
def tcpReadsSpec : ChangeSpec := { name := "tcpReads", fn := fun _ => fun
  | [d] => { results := [.lit (.bool true)], args := [d] }
  | _ => none }
def tcpReadsRow : OpenClaim := { program := "ytfagblcepibliaa", sum := "e1f0937a14769e683d90f906dc5abe1a59a236fb78740f2bba25f7e31f3f2b5e", func := "counterfoil/counterfoillaw06.TcpReads", spec := "tcpReads", apart := false }
def TcpReadsSaid : Prop := tcpReadsRow.holds Try.pinned (OpenSpec.ofChange tcpReadsSpec)

/-- ITS FALSE NEIGHBOUR: 'it returns false'. Refute it at one input. -/
def tcpReadsWrong : ChangeSpec := { name := "tcpReads", fn := fun _ => fun
  | [d] => { results := [.lit (.bool false)], args := [d] }
  | _ => none }
def TcpReadsWrongFalsely : Prop := tcpReadsRow.holds Try.pinned (OpenSpec.ofChange tcpReadsWrong)

/-- 'counterfoillaw06.TcpWrites': WHATEVER THE INPUT: true; the input reads as it did. -/
def tcpWritesSpec : ChangeSpec := { name := "tcpWrites", fn := fun _ => fun
  | [d] => { results := [.lit (.bool true)], args := [d] }
  | _ => none }
def tcpWritesRow : OpenClaim := { program := "ytfagblcepibliaa", sum := "e1f0937a14769e683d90f906dc5abe1a59a236fb78740f2bba25f7e31f3f2b5e", func := "counterfoil/counterfoillaw06.TcpWrites", spec := "tcpWrites", apart := false }
def TcpWritesSaid : Prop := tcpWritesRow.holds Try.pinned (OpenSpec.ofChange tcpWritesSpec)

/-- ITS FALSE NEIGHBOUR: 'it returns false'. Refute it at one input. -/
def tcpWritesWrong : ChangeSpec := { name := "tcpWrites", fn := fun _ => fun
  | [d] => { results := [.lit (.bool false)], args := [d] }
  | _ => none }
def TcpWritesWrongFalsely : Prop := tcpWritesRow.holds Try.pinned (OpenSpec.ofChange tcpWritesWrong)

/-- 'counterfoillaw07.UdpReads': WHATEVER THE INPUT: true; the input reads as it did. -/
def udpReadsSpec : ChangeSpec := { name := "udpReads", fn := fun _ => fun
  | [d] => { results := [.lit (.bool true)], args := [d] }
  | _ => none }
def udpReadsRow : OpenClaim := { program := "ytfagblcepibliaa", sum := "e1f0937a14769e683d90f906dc5abe1a59a236fb78740f2bba25f7e31f3f2b5e", func := "counterfoil/counterfoillaw07.UdpReads", spec := "udpReads", apart := false }
def UdpReadsSaid : Prop := udpReadsRow.holds Try.pinned (OpenSpec.ofChange udpReadsSpec)

/-- ITS FALSE NEIGHBOUR: 'it returns false'. Refute it at one input. -/
def udpReadsWrong : ChangeSpec := { name := "udpReads", fn := fun _ => fun
  | [d] => { results := [.lit (.bool false)], args := [d] }
  | _ => none }
def UdpReadsWrongFalsely : Prop := udpReadsRow.holds Try.pinned (OpenSpec.ofChange udpReadsWrong)

/-- 'counterfoillaw07.UdpLong': WHATEVER THE INPUT: true; the input reads as it did. -/
def udpLongSpec : ChangeSpec := { name := "udpLong", fn := fun _ => fun
  | [d] => { results := [.lit (.bool true)], args := [d] }
  | _ => none }
def udpLongRow : OpenClaim := { program := "ytfagblcepibliaa", sum := "e1f0937a14769e683d90f906dc5abe1a59a236fb78740f2bba25f7e31f3f2b5e", func := "counterfoil/counterfoillaw07.UdpLong", spec := "udpLong", apart := false }
def UdpLongSaid : Prop := udpLongRow.holds Try.pinned (OpenSpec.ofChange udpLongSpec)

/-- ITS FALSE NEIGHBOUR: 'it returns false'. Refute it at one input. -/
def udpLongWrong : ChangeSpec := { name := "udpLong", fn := fun _ => fun
  | [d] => { results := [.lit (.bool false)], args := [d] }
  | _ => none }
def UdpLongWrongFalsely : Prop := udpLongRow.holds Try.pinned (OpenSpec.ofChange udpLongWrong)

/-- 'counterfoillaw08.IcmpReads': WHATEVER THE INPUT: true; the input reads as it did. -/
def icmpReadsSpec : ChangeSpec := { name := "icmpReads", fn := fun _ => fun
  | [d] => { results := [.lit (.bool true)], args := [d] }
  | _ => none }
def icmpReadsRow : OpenClaim := { program := "ytfagblcepibliaa", sum := "e1f0937a14769e683d90f906dc5abe1a59a236fb78740f2bba25f7e31f3f2b5e", func := "counterfoil/counterfoillaw08.IcmpReads", spec := "icmpReads", apart := false }
def IcmpReadsSaid : Prop := icmpReadsRow.holds Try.pinned (OpenSpec.ofChange icmpReadsSpec)

/-- ITS FALSE NEIGHBOUR: 'it returns false'. Refute it at one input. -/
def icmpReadsWrong : ChangeSpec := { name := "icmpReads", fn := fun _ => fun
  | [d] => { results := [.lit (.bool false)], args := [d] }
  | _ => none }
def IcmpReadsWrongFalsely : Prop := icmpReadsRow.holds Try.pinned (OpenSpec.ofChange icmpReadsWrong)

/-- 'counterfoillaw08.IcmpWrites': WHATEVER THE INPUT: true; the input reads as it did. -/
def icmpWritesSpec : ChangeSpec := { name := "icmpWrites", fn := fun _ => fun
  | [d1, d2, d3] => { results := [.lit (.bool true)], args := [d1, d2, d3] }
  | _ => none }
def icmpWritesRow : OpenClaim := { program := "ytfagblcepibliaa", sum := "e1f0937a14769e683d90f906dc5abe1a59a236fb78740f2bba25f7e31f3f2b5e", func := "counterfoil/counterfoillaw08.IcmpWrites", spec := "icmpWrites", apart := false }
def IcmpWritesSaid : Prop := icmpWritesRow.holds Try.pinned (OpenSpec.ofChange icmpWritesSpec)

/-- ITS FALSE NEIGHBOUR: 'it returns false'. Refute it at one input. -/
def icmpWritesWrong : ChangeSpec := { name := "icmpWrites", fn := fun _ => fun
  | [d1, d2, d3] => { results := [.lit (.bool false)], args := [d1, d2, d3] }
  | _ => none }
def IcmpWritesWrongFalsely : Prop := icmpWritesRow.holds Try.pinned (OpenSpec.ofChange icmpWritesWrong)

/-- 'counterfoillaw09.TunnelReads': WHATEVER THE INPUT: true; the input reads as it did. -/
def tunnelReadsSpec : ChangeSpec := { name := "tunnelReads", fn := fun _ => fun
  | [d] => { results := [.lit (.bool true)], args := [d] }
  | _ => none }
def tunnelReadsRow : OpenClaim := { program := "ytfagblcepibliaa", sum := "e1f0937a14769e683d90f906dc5abe1a59a236fb78740f2bba25f7e31f3f2b5e", func := "counterfoil/counterfoillaw09.TunnelReads", spec := "tunnelReads", apart := false }
def TunnelReadsSaid : Prop := tunnelReadsRow.holds Try.pinned (OpenSpec.ofChange tunnelReadsSpec)

/-- ITS FALSE NEIGHBOUR: 'it returns false'. Refute it at one input. -/
def tunnelReadsWrong : ChangeSpec := { name := "tunnelReads", fn := fun _ => fun
  | [d] => { results := [.lit (.bool false)], args := [d] }
  | _ => none }
def TunnelReadsWrongFalsely : Prop := tunnelReadsRow.holds Try.pinned (OpenSpec.ofChange tunnelReadsWrong)

/-- 'counterfoillaw09.TunnelTwice': WHATEVER THE INPUT: true; the input reads as it did. -/
def tunnelTwiceSpec : ChangeSpec := { name := "tunnelTwice", fn := fun _ => fun
  | [d1, d2, d3, d4] => { results := [.lit (.bool true)], args := [d1, d2, d3, d4] }
  | _ => none }
def tunnelTwiceRow : OpenClaim := { program := "ytfagblcepibliaa", sum := "e1f0937a14769e683d90f906dc5abe1a59a236fb78740f2bba25f7e31f3f2b5e", func := "counterfoil/counterfoillaw09.TunnelTwice", spec := "tunnelTwice", apart := false }
def TunnelTwiceSaid : Prop := tunnelTwiceRow.holds Try.pinned (OpenSpec.ofChange tunnelTwiceSpec)

/-- ITS FALSE NEIGHBOUR: 'it returns false'. Refute it at one input. -/
def tunnelTwiceWrong : ChangeSpec := { name := "tunnelTwice", fn := fun _ => fun
  | [d1, d2, d3, d4] => { results := [.lit (.bool false)], args := [d1, d2, d3, d4] }
  | _ => none }
def TunnelTwiceWrongFalsely : Prop := tunnelTwiceRow.holds Try.pinned (OpenSpec.ofChange tunnelTwiceWrong)

/-- 'counterfoillaw38.FragSplits': WHATEVER THE INPUT: true; the input reads as it did. -/
def fragSplitsSpec : ChangeSpec := { name := "fragSplits", fn := fun _ => fun
  | [d1, d2] => { results := [.lit (.bool true)], args := [d1, d2] }
  | _ => none }
def fragSplitsRow : OpenClaim := { program := "ytfagblcepibliaa", sum := "e1f0937a14769e683d90f906dc5abe1a59a236fb78740f2bba25f7e31f3f2b5e", func := "counterfoil/counterfoillaw38.FragSplits", spec := "fragSplits", apart := false }
def FragSplitsSaid : Prop := fragSplitsRow.holds Try.pinned (OpenSpec.ofChange fragSplitsSpec)

/-- ITS FALSE NEIGHBOUR: 'it returns false'. Refute it at one input. -/
def fragSplitsWrong : ChangeSpec := { name := "fragSplits", fn := fun _ => fun
  | [d1, d2] => { results := [.lit (.bool false)], args := [d1, d2] }
  | _ => none }
def FragSplitsWrongFalsely : Prop := fragSplitsRow.holds Try.pinned (OpenSpec.ofChange fragSplitsWrong)

/-- 'counterfoillaw38.FragJoins': WHATEVER THE INPUT: true; the input reads as it did. -/
def fragJoinsSpec : ChangeSpec := { name := "fragJoins", fn := fun _ => fun
  | [d] => { results := [.lit (.bool true)], args := [d] }
  | _ => none }
def fragJoinsRow : OpenClaim := { program := "ytfagblcepibliaa", sum := "e1f0937a14769e683d90f906dc5abe1a59a236fb78740f2bba25f7e31f3f2b5e", func := "counterfoil/counterfoillaw38.FragJoins", spec := "fragJoins", unfollowed := true, recurses := true, apart := false }
def FragJoinsSaid : Prop := fragJoinsRow.holds Try.pinned (OpenSpec.ofChange fragJoinsSpec)

/-- ITS FALSE NEIGHBOUR: 'it returns false'. Refute it at one input. -/
def fragJoinsWrong : ChangeSpec := { name := "fragJoins", fn := fun _ => fun
  | [d] => { results := [.lit (.bool false)], args := [d] }
  | _ => none }
def FragJoinsWrongFalsely : Prop := fragJoinsRow.holds Try.pinned (OpenSpec.ofChange fragJoinsWrong)

/-- 'counterfoillaw38.FragBack': WHATEVER THE INPUT: true; the input reads as it did. -/
def fragBackSpec : ChangeSpec := { name := "fragBack", fn := fun _ => fun
  | [d1, d2, d3] => { results := [.lit (.bool true)], args := [d1, d2, d3] }
  | _ => none }
def fragBackRow : OpenClaim := { program := "ytfagblcepibliaa", sum := "e1f0937a14769e683d90f906dc5abe1a59a236fb78740f2bba25f7e31f3f2b5e", func := "counterfoil/counterfoillaw38.FragBack", spec := "fragBack", unfollowed := true, recurses := true, apart := false }
def FragBackSaid : Prop := fragBackRow.holds Try.pinned (OpenSpec.ofChange fragBackSpec)

/-- ITS FALSE NEIGHBOUR: 'it returns false'. Refute it at one input. -/
def fragBackWrong : ChangeSpec := { name := "fragBack", fn := fun _ => fun
  | [d1, d2, d3] => { results := [.lit (.bool false)], args := [d1, d2, d3] }
  | _ => none }
def FragBackWrongFalsely : Prop := fragBackRow.holds Try.pinned (OpenSpec.ofChange fragBackWrong)

/-- 'counterfoillaw45.CaptureWrites': WHATEVER THE INPUT: true; the input reads as it did. -/
def captureWritesSpec : ChangeSpec := { name := "captureWrites", fn := fun _ => fun
  | [d1, d2] => { results := [.lit (.bool true)], args := [d1, d2] }
  | _ => none }
def captureWritesRow : OpenClaim := { program := "ytfagblcepibliaa", sum := "e1f0937a14769e683d90f906dc5abe1a59a236fb78740f2bba25f7e31f3f2b5e", func := "counterfoil/counterfoillaw45.CaptureWrites", spec := "captureWrites", apart := false }
def CaptureWritesSaid : Prop := captureWritesRow.holds Try.pinned (OpenSpec.ofChange captureWritesSpec)

/-- ITS FALSE NEIGHBOUR: 'it returns false'. Refute it at one input. -/
def captureWritesWrong : ChangeSpec := { name := "captureWrites", fn := fun _ => fun
  | [d1, d2] => { results := [.lit (.bool false)], args := [d1, d2] }
  | _ => none }
def CaptureWritesWrongFalsely : Prop := captureWritesRow.holds Try.pinned (OpenSpec.ofChange captureWritesWrong)

/- THE SECOND FORM. 'bulk': how many values and letters a reading holds, each counted each time it is reached (what is shared counts as often as it is met; a slice's spare places count too). A statement '..UptoSaid' is the law's where the arguments, and the package variables that the reading takes, are together of bulk at most 1048576: NARROWER than '..Said'. Prove '..Said' where nothing that the law and all that it calls make is longer than what came in: it says more and counts as full. Else prove '..UptoSaid'. A law counts once. -/
mutual
def uptoBulk {H : Type} : DataW H → Nat
  | .lit (.string bytes) => bytes.length + 1
  | .lit _ => 1
  | .nil => 1
  | .ptr d => uptoBulk d + 1
  | .slice elems spare => uptoBulkAll elems + uptoBulkAll spare + 1
  | .agg parts => uptoBulkAll parts + 1
  | .iface _ d => uptoBulk d + 1
  | .map entries => uptoBulkEntries entries + 1
  | .held _ => 1
def uptoBulkAll {H : Type} : List (DataW H) → Nat
  | [] => 0
  | d :: r => uptoBulk d + uptoBulkAll r
def uptoBulkEntries {H : Type} : List (Lit × DataW H) → Nat
  | [] => 0
  | x :: r => uptoBulkEntry x + uptoBulkEntries r
def uptoBulkEntry {H : Type} : Lit × DataW H → Nat
  | (.string bytes, d) => bytes.length + uptoBulk d + 1
  | (_, d) => uptoBulk d + 1
 end
def uptoSmall : (H : Type) → List (DataW H) → Bool := fun _ ds => decide (uptoBulkAll ds ≤ 1048576)
def OpenSpec.upto (s : _root_.Go.ChangeSpec) : _root_.Go.OpenSpec := { _root_.Go.OpenSpec.ofChange s with cond := some uptoSmall }

/-- 'counterfoillaw04.Ip4Reads', WHERE WHAT IT READS IS OF BULK AT MOST 1048576: true; the input reads as it did. -/
def ip4ReadsUptoRow : OpenClaim := { program := "ytfagblcepibliaa", sum := "e1f0937a14769e683d90f906dc5abe1a59a236fb78740f2bba25f7e31f3f2b5e", func := "counterfoil/counterfoillaw04.Ip4Reads", spec := "ip4Reads", apart := false, narrowed := true }
def Ip4ReadsUptoSaid : Prop := ip4ReadsUptoRow.holds Try.pinned (OpenSpec.upto ip4ReadsSpec)

/-- 'counterfoillaw04.Ip4Writes', WHERE WHAT IT READS IS OF BULK AT MOST 1048576: true; the input reads as it did. -/
def ip4WritesUptoRow : OpenClaim := { program := "ytfagblcepibliaa", sum := "e1f0937a14769e683d90f906dc5abe1a59a236fb78740f2bba25f7e31f3f2b5e", func := "counterfoil/counterfoillaw04.Ip4Writes", spec := "ip4Writes", apart := false, narrowed := true }
def Ip4WritesUptoSaid : Prop := ip4WritesUptoRow.holds Try.pinned (OpenSpec.upto ip4WritesSpec)

/-- 'counterfoillaw04.Ip4Long', WHERE WHAT IT READS IS OF BULK AT MOST 1048576: true; the input reads as it did. -/
def ip4LongUptoRow : OpenClaim := { program := "ytfagblcepibliaa", sum := "e1f0937a14769e683d90f906dc5abe1a59a236fb78740f2bba25f7e31f3f2b5e", func := "counterfoil/counterfoillaw04.Ip4Long", spec := "ip4Long", apart := false, narrowed := true }
def Ip4LongUptoSaid : Prop := ip4LongUptoRow.holds Try.pinned (OpenSpec.upto ip4LongSpec)

/-- 'counterfoillaw05.Ip6Writes', WHERE WHAT IT READS IS OF BULK AT MOST 1048576: true; the input reads as it did. -/
def ip6WritesUptoRow : OpenClaim := { program := "ytfagblcepibliaa", sum := "e1f0937a14769e683d90f906dc5abe1a59a236fb78740f2bba25f7e31f3f2b5e", func := "counterfoil/counterfoillaw05.Ip6Writes", spec := "ip6Writes", apart := false, narrowed := true }
def Ip6WritesUptoSaid : Prop := ip6WritesUptoRow.holds Try.pinned (OpenSpec.upto ip6WritesSpec)

/-- 'counterfoillaw06.TcpReads', WHERE WHAT IT READS IS OF BULK AT MOST 1048576: true; the input reads as it did. -/
def tcpReadsUptoRow : OpenClaim := { program := "ytfagblcepibliaa", sum := "e1f0937a14769e683d90f906dc5abe1a59a236fb78740f2bba25f7e31f3f2b5e", func := "counterfoil/counterfoillaw06.TcpReads", spec := "tcpReads", apart := false, narrowed := true }
def TcpReadsUptoSaid : Prop := tcpReadsUptoRow.holds Try.pinned (OpenSpec.upto tcpReadsSpec)

/-- 'counterfoillaw06.TcpWrites', WHERE WHAT IT READS IS OF BULK AT MOST 1048576: true; the input reads as it did. -/
def tcpWritesUptoRow : OpenClaim := { program := "ytfagblcepibliaa", sum := "e1f0937a14769e683d90f906dc5abe1a59a236fb78740f2bba25f7e31f3f2b5e", func := "counterfoil/counterfoillaw06.TcpWrites", spec := "tcpWrites", apart := false, narrowed := true }
def TcpWritesUptoSaid : Prop := tcpWritesUptoRow.holds Try.pinned (OpenSpec.upto tcpWritesSpec)

/-- 'counterfoillaw07.UdpReads', WHERE WHAT IT READS IS OF BULK AT MOST 1048576: true; the input reads as it did. -/
def udpReadsUptoRow : OpenClaim := { program := "ytfagblcepibliaa", sum := "e1f0937a14769e683d90f906dc5abe1a59a236fb78740f2bba25f7e31f3f2b5e", func := "counterfoil/counterfoillaw07.UdpReads", spec := "udpReads", apart := false, narrowed := true }
def UdpReadsUptoSaid : Prop := udpReadsUptoRow.holds Try.pinned (OpenSpec.upto udpReadsSpec)

/-- 'counterfoillaw07.UdpLong', WHERE WHAT IT READS IS OF BULK AT MOST 1048576: true; the input reads as it did. -/
def udpLongUptoRow : OpenClaim := { program := "ytfagblcepibliaa", sum := "e1f0937a14769e683d90f906dc5abe1a59a236fb78740f2bba25f7e31f3f2b5e", func := "counterfoil/counterfoillaw07.UdpLong", spec := "udpLong", apart := false, narrowed := true }
def UdpLongUptoSaid : Prop := udpLongUptoRow.holds Try.pinned (OpenSpec.upto udpLongSpec)

/-- 'counterfoillaw08.IcmpReads', WHERE WHAT IT READS IS OF BULK AT MOST 1048576: true; the input reads as it did. -/
def icmpReadsUptoRow : OpenClaim := { program := "ytfagblcepibliaa", sum := "e1f0937a14769e683d90f906dc5abe1a59a236fb78740f2bba25f7e31f3f2b5e", func := "counterfoil/counterfoillaw08.IcmpReads", spec := "icmpReads", apart := false, narrowed := true }
def IcmpReadsUptoSaid : Prop := icmpReadsUptoRow.holds Try.pinned (OpenSpec.upto icmpReadsSpec)

/-- 'counterfoillaw08.IcmpWrites', WHERE WHAT IT READS IS OF BULK AT MOST 1048576: true; the input reads as it did. -/
def icmpWritesUptoRow : OpenClaim := { program := "ytfagblcepibliaa", sum := "e1f0937a14769e683d90f906dc5abe1a59a236fb78740f2bba25f7e31f3f2b5e", func := "counterfoil/counterfoillaw08.IcmpWrites", spec := "icmpWrites", apart := false, narrowed := true }
def IcmpWritesUptoSaid : Prop := icmpWritesUptoRow.holds Try.pinned (OpenSpec.upto icmpWritesSpec)

/-- 'counterfoillaw09.TunnelReads', WHERE WHAT IT READS IS OF BULK AT MOST 1048576: true; the input reads as it did. -/
def tunnelReadsUptoRow : OpenClaim := { program := "ytfagblcepibliaa", sum := "e1f0937a14769e683d90f906dc5abe1a59a236fb78740f2bba25f7e31f3f2b5e", func := "counterfoil/counterfoillaw09.TunnelReads", spec := "tunnelReads", apart := false, narrowed := true }
def TunnelReadsUptoSaid : Prop := tunnelReadsUptoRow.holds Try.pinned (OpenSpec.upto tunnelReadsSpec)

/-- 'counterfoillaw09.TunnelTwice', WHERE WHAT IT READS IS OF BULK AT MOST 1048576: true; the input reads as it did. -/
def tunnelTwiceUptoRow : OpenClaim := { program := "ytfagblcepibliaa", sum := "e1f0937a14769e683d90f906dc5abe1a59a236fb78740f2bba25f7e31f3f2b5e", func := "counterfoil/counterfoillaw09.TunnelTwice", spec := "tunnelTwice", apart := false, narrowed := true }
def TunnelTwiceUptoSaid : Prop := tunnelTwiceUptoRow.holds Try.pinned (OpenSpec.upto tunnelTwiceSpec)

/-- 'counterfoillaw38.FragSplits', WHERE WHAT IT READS IS OF BULK AT MOST 1048576: true; the input reads as it did. -/
def fragSplitsUptoRow : OpenClaim := { program := "ytfagblcepibliaa", sum := "e1f0937a14769e683d90f906dc5abe1a59a236fb78740f2bba25f7e31f3f2b5e", func := "counterfoil/counterfoillaw38.FragSplits", spec := "fragSplits", apart := false, narrowed := true }
def FragSplitsUptoSaid : Prop := fragSplitsUptoRow.holds Try.pinned (OpenSpec.upto fragSplitsSpec)

/-- 'counterfoillaw38.FragJoins', WHERE WHAT IT READS IS OF BULK AT MOST 1048576: true; the input reads as it did. -/
def fragJoinsUptoRow : OpenClaim := { program := "ytfagblcepibliaa", sum := "e1f0937a14769e683d90f906dc5abe1a59a236fb78740f2bba25f7e31f3f2b5e", func := "counterfoil/counterfoillaw38.FragJoins", spec := "fragJoins", unfollowed := true, recurses := true, apart := false, narrowed := true }
def FragJoinsUptoSaid : Prop := fragJoinsUptoRow.holds Try.pinned (OpenSpec.upto fragJoinsSpec)

/-- 'counterfoillaw38.FragBack', WHERE WHAT IT READS IS OF BULK AT MOST 1048576: true; the input reads as it did. -/
def fragBackUptoRow : OpenClaim := { program := "ytfagblcepibliaa", sum := "e1f0937a14769e683d90f906dc5abe1a59a236fb78740f2bba25f7e31f3f2b5e", func := "counterfoil/counterfoillaw38.FragBack", spec := "fragBack", unfollowed := true, recurses := true, apart := false, narrowed := true }
def FragBackUptoSaid : Prop := fragBackUptoRow.holds Try.pinned (OpenSpec.upto fragBackSpec)

/-- 'counterfoillaw45.CaptureWrites', WHERE WHAT IT READS IS OF BULK AT MOST 1048576: true; the input reads as it did. -/
def captureWritesUptoRow : OpenClaim := { program := "ytfagblcepibliaa", sum := "e1f0937a14769e683d90f906dc5abe1a59a236fb78740f2bba25f7e31f3f2b5e", func := "counterfoil/counterfoillaw45.CaptureWrites", spec := "captureWrites", apart := false, narrowed := true }
def CaptureWritesUptoSaid : Prop := captureWritesUptoRow.holds Try.pinned (OpenSpec.upto captureWritesSpec)

end Rows
end Go.Proofs.Ytfagblcepibliaa
