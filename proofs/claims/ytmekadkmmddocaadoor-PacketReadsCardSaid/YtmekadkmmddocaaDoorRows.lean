/-
  NARROWER THAN 'FOR EVERY INPUT', by the rows' own cells (each row's printed sentence says how): PacketReads: laid · PacketNames: laid · PacketCarries: laid.
  DERIVED. THE GIVEN ROWS OF THIS SEAT. 3 by the template 'for every input the law returns true; each argument reads behind the call as it read before'; 0 by the template 'total and deterministic' (their statements: YtmekadkmmddocaaDoorTotals.lean).
  GIVEN WITH THE SEED: the statements are not yours to turn. If you find one false, say at which input.
  Laid BY PROGRAM, IN A SANDBOX (cutbox-rows.mjs): the forced cells as the released guide's own fill.sh prints them over the translation 42738ca00ae90ceb… (all of the seat's roots in one cut). By AI agents, Wed Nov 11 2026. No macro, syntax, notation, axiom, sorry.
-/
import Derived.Test.YtmekadkmmddocaaDoorChecked
import GoSem.Claim
import GoSem.ClaimJoined
import GoSem.ClaimMapViews
import Derived.JoinedTies
import Derived.KernelRfl
namespace Go.Proofs.YtmekadkmmddocaaDoor
/- THE CELL 'sum', in the pinned program and in every row, IS THE sha256 OF THE DUMP (.gsa) THAT YtmekadkmmddocaaDoorProg.lean LOADS. Nothing in Lean hashes anything: it is a label: what it is worth is what the hold of that sum in a sandbox is worth. -/
noncomputable def Tryd.pinned : Pinned := { name := "ytmekadkmmddocaadoor", sum := "42738ca00ae90ceb3ea14807ab4cc44cf5ae2bb7223d025208d471a34eebae14", checked := Tryd.checked }
namespace Rows
def none {H : Type} : Left H := { results := [], args := [] }

/- WHAT THE LISTED PACKAGE-LEVEL VARIABLES READ AS WHEN THE CALL BEGINS. Each datum BY PROGRAM (the guide's laid-datum.mjs) off the statement by which the dump's own 'gosem.cut.vars' lays the variable. In a bare row this is a premise. The card (YtmekadkmmddocaaDoorCards.lean) ties it to the program's text. -/
def laid_counterfoil_packet_names {H : Type} : DataW H := .agg [.lit (.string [102, 105, 110, 101]), .lit (.string [115, 104, 111, 114, 116]), .lit (.string [109, 97, 108, 102, 111, 114, 109, 101, 100]), .lit (.string [98, 97, 100, 115, 117, 109]), .lit (.string [102, 114, 97, 103, 109, 101, 110, 116]), .lit (.string [101, 120, 112, 105, 114, 101, 100]), .lit (.string [110, 111, 112, 114, 111, 116, 111]), .lit (.string [110, 111, 115, 101, 114, 118, 105, 99, 101]), .lit (.string [110, 111, 116, 97, 98, 108, 101]), .lit (.string [110, 111, 98, 97, 99, 107, 101, 110, 100]), .lit (.string [110, 111, 107, 101, 121]), .lit (.string [110, 111, 118, 101, 114, 115, 105, 111, 110]), .lit (.string [110, 111, 115, 108, 111, 116]), .lit (.string [101, 118, 105, 99, 116, 101, 100]), .lit (.string [116, 111, 111, 98, 105, 103]), .lit (.string [115, 116, 114, 97, 110, 103, 101, 114])]

/-- 'counterfoillaw28.PacketReads': WHATEVER THE INPUT: true; the input reads as it did. -/
def packetReadsSpec : ChangeSpec := { name := "packetReads", fn := fun _ => fun
  | [d] => { results := [.lit (.bool true)], args := [d] }
  | _ => none }
def packetReadsRow : OpenClaim := { program := "ytmekadkmmddocaadoor", sum := "42738ca00ae90ceb3ea14807ab4cc44cf5ae2bb7223d025208d471a34eebae14", func := "counterfoil/counterfoillaw28.PacketReads", spec := "packetReads", named := ["counterfoil/packet.names"], apart := false, laid := [("counterfoil/packet.names", laid_counterfoil_packet_names)] }
def PacketReadsSaid : Prop := packetReadsRow.holds Tryd.pinned (OpenSpec.ofChange packetReadsSpec)

/-- ITS FALSE NEIGHBOUR: 'it returns false'. Refute it at one input. -/
def packetReadsWrong : ChangeSpec := { name := "packetReads", fn := fun _ => fun
  | [d] => { results := [.lit (.bool false)], args := [d] }
  | _ => none }
def PacketReadsWrongFalsely : Prop := packetReadsRow.holds Tryd.pinned (OpenSpec.ofChange packetReadsWrong)

/-- 'counterfoillaw28.PacketNames': WHATEVER THE INPUT: true; the input reads as it did. -/
def packetNamesSpec : ChangeSpec := { name := "packetNames", fn := fun _ => fun
  | [d1, d2] => { results := [.lit (.bool true)], args := [d1, d2] }
  | _ => none }
def packetNamesRow : OpenClaim := { program := "ytmekadkmmddocaadoor", sum := "42738ca00ae90ceb3ea14807ab4cc44cf5ae2bb7223d025208d471a34eebae14", func := "counterfoil/counterfoillaw28.PacketNames", spec := "packetNames", named := ["counterfoil/packet.names"], apart := false, laid := [("counterfoil/packet.names", laid_counterfoil_packet_names)] }
def PacketNamesSaid : Prop := packetNamesRow.holds Tryd.pinned (OpenSpec.ofChange packetNamesSpec)

/-- ITS FALSE NEIGHBOUR: 'it returns false'. Refute it at one input. -/
def packetNamesWrong : ChangeSpec := { name := "packetNames", fn := fun _ => fun
  | [d1, d2] => { results := [.lit (.bool false)], args := [d1, d2] }
  | _ => none }
def PacketNamesWrongFalsely : Prop := packetNamesRow.holds Tryd.pinned (OpenSpec.ofChange packetNamesWrong)

/-- 'counterfoillaw28.PacketCarries': WHATEVER THE INPUT: true; the input reads as it did. -/
def packetCarriesSpec : ChangeSpec := { name := "packetCarries", fn := fun _ => fun
  | [d1, d2] => { results := [.lit (.bool true)], args := [d1, d2] }
  | _ => none }
def packetCarriesRow : OpenClaim := { program := "ytmekadkmmddocaadoor", sum := "42738ca00ae90ceb3ea14807ab4cc44cf5ae2bb7223d025208d471a34eebae14", func := "counterfoil/counterfoillaw28.PacketCarries", spec := "packetCarries", named := ["counterfoil/packet.names"], apart := false, laid := [("counterfoil/packet.names", laid_counterfoil_packet_names)] }
def PacketCarriesSaid : Prop := packetCarriesRow.holds Tryd.pinned (OpenSpec.ofChange packetCarriesSpec)

/-- ITS FALSE NEIGHBOUR: 'it returns false'. Refute it at one input. -/
def packetCarriesWrong : ChangeSpec := { name := "packetCarries", fn := fun _ => fun
  | [d1, d2] => { results := [.lit (.bool false)], args := [d1, d2] }
  | _ => none }
def PacketCarriesWrongFalsely : Prop := packetCarriesRow.holds Tryd.pinned (OpenSpec.ofChange packetCarriesWrong)

/- THE SECOND FORM. 'bulk': how many values and letters a reading holds, each counted each time it is reached (what is shared counts as often as it is met; a slice's spare places count too). A statement '..UptoSaid' is the law's where the arguments, and the package variables that the reading takes, are together of bulk at most 1048576: NARROWER than '..Said'. Prove '..Said' where nothing that the law and all that it calls make is longer than what came in: it says more and counts as full. Else prove '..UptoSaid'. A law counts once. -/
mutual
def uptoBulk {H : Type} : DataW H → Nat
  | .lit (.string bytes) => bytes.length + 1
  | .lit _ => 1
  | .nil => 1
  | .ptr d => uptoBulk d + 1
  | .slice elems spare => uptoBulkAll elems + uptoBulkAll spare + 1
  | .agg parts => uptoBulkAll parts + 1
  | .iface _ d => uptoBulk d + 1
  | .map entries => uptoBulkEntries entries + 1
  | .held _ => 1
def uptoBulkAll {H : Type} : List (DataW H) → Nat
  | [] => 0
  | d :: r => uptoBulk d + uptoBulkAll r
def uptoBulkEntries {H : Type} : List (Lit × DataW H) → Nat
  | [] => 0
  | x :: r => uptoBulkEntry x + uptoBulkEntries r
def uptoBulkEntry {H : Type} : Lit × DataW H → Nat
  | (.string bytes, d) => bytes.length + uptoBulk d + 1
  | (_, d) => uptoBulk d + 1
 end
def uptoSmall : (H : Type) → List (DataW H) → Bool := fun _ ds => decide (uptoBulkAll ds ≤ 1048576)
def OpenSpec.upto (s : _root_.Go.ChangeSpec) : _root_.Go.OpenSpec := { _root_.Go.OpenSpec.ofChange s with cond := some uptoSmall }

/-- 'counterfoillaw28.PacketReads', WHERE WHAT IT READS IS OF BULK AT MOST 1048576: true; the input reads as it did. -/
def packetReadsUptoRow : OpenClaim := { program := "ytmekadkmmddocaadoor", sum := "42738ca00ae90ceb3ea14807ab4cc44cf5ae2bb7223d025208d471a34eebae14", func := "counterfoil/counterfoillaw28.PacketReads", spec := "packetReads", named := ["counterfoil/packet.names"], apart := false, laid := [("counterfoil/packet.names", laid_counterfoil_packet_names)], narrowed := true }
def PacketReadsUptoSaid : Prop := packetReadsUptoRow.holds Tryd.pinned (OpenSpec.upto packetReadsSpec)

/-- 'counterfoillaw28.PacketNames', WHERE WHAT IT READS IS OF BULK AT MOST 1048576: true; the input reads as it did. -/
def packetNamesUptoRow : OpenClaim := { program := "ytmekadkmmddocaadoor", sum := "42738ca00ae90ceb3ea14807ab4cc44cf5ae2bb7223d025208d471a34eebae14", func := "counterfoil/counterfoillaw28.PacketNames", spec := "packetNames", named := ["counterfoil/packet.names"], apart := false, laid := [("counterfoil/packet.names", laid_counterfoil_packet_names)], narrowed := true }
def PacketNamesUptoSaid : Prop := packetNamesUptoRow.holds Tryd.pinned (OpenSpec.upto packetNamesSpec)

/-- 'counterfoillaw28.PacketCarries', WHERE WHAT IT READS IS OF BULK AT MOST 1048576: true; the input reads as it did. -/
def packetCarriesUptoRow : OpenClaim := { program := "ytmekadkmmddocaadoor", sum := "42738ca00ae90ceb3ea14807ab4cc44cf5ae2bb7223d025208d471a34eebae14", func := "counterfoil/counterfoillaw28.PacketCarries", spec := "packetCarries", named := ["counterfoil/packet.names"], apart := false, laid := [("counterfoil/packet.names", laid_counterfoil_packet_names)], narrowed := true }
def PacketCarriesUptoSaid : Prop := packetCarriesUptoRow.holds Tryd.pinned (OpenSpec.upto packetCarriesSpec)

end Rows
end Go.Proofs.YtmekadkmmddocaaDoor
