/-
  DERIVED. GIVEN WITH THE SEED: THE CARDS: each row of YtmekadkmmddocaaDoorRows.lean that lists a variable, with what it lists TIED to the program's text (the seventh form; the later family's looks); each row that meets fmt, with fmt's text TOLD by the authors' own Lean function (tested against real Go, not proved from fmt's source: count such statements apart). THE CARD IS WHAT COUNTS. Prove the row's statement (the work); the ties are given (YtmekadkmmddocaaDoorTie.lean); close each card by the builder's one call (the guide's Derived/Test/ToyasCard.lean, 'card_holds'). Laid BY PROGRAM, IN A SANDBOX (cutbox-door.mjs). By AI agents, Wed Nov 11 2026. No macro, syntax, notation, axiom, sorry.
-/
import Derived.Test.YtmekadkmmddocaaDoorRows
import GoSem.ClaimSeven
namespace Go.Proofs.YtmekadkmmddocaaDoor
namespace Rows

/-- THE TIED CARD OF 'counterfoillaw28.PacketReads'. -/
def packetReadsCard : Claim7 := { stood := { row := packetReadsRow, standIns := [], harness := (true, "8f19c985a230abab09ae99326ae0393efcc1eb2c70b21afa7b76d1705f56958c"), looks := false }, kinds := [], alts := [], laidByText := true, laidKinds := [.data], laidTests := true, laidLooks := .later }
def PacketReadsCardSaid : Prop := Claim7.holds Tryd.pinned (.plain (OpenSpec.ofChange packetReadsSpec)) packetReadsCard

/-- THE TIED CARD OF 'counterfoillaw28.PacketNames'. -/
def packetNamesCard : Claim7 := { stood := { row := packetNamesRow, standIns := [], harness := (true, "8f19c985a230abab09ae99326ae0393efcc1eb2c70b21afa7b76d1705f56958c"), looks := false }, kinds := [], alts := [], laidByText := true, laidKinds := [.data], laidTests := true, laidLooks := .later }
def PacketNamesCardSaid : Prop := Claim7.holds Tryd.pinned (.plain (OpenSpec.ofChange packetNamesSpec)) packetNamesCard

/-- THE TIED CARD OF 'counterfoillaw28.PacketCarries'. -/
def packetCarriesCard : Claim7 := { stood := { row := packetCarriesRow, standIns := [], harness := (true, "8f19c985a230abab09ae99326ae0393efcc1eb2c70b21afa7b76d1705f56958c"), looks := false }, kinds := [], alts := [], laidByText := true, laidKinds := [.data], laidTests := true, laidLooks := .later }
def PacketCarriesCardSaid : Prop := Claim7.holds Tryd.pinned (.plain (OpenSpec.ofChange packetCarriesSpec)) packetCarriesCard

/-- THE SECOND FORM's CARD OF 'counterfoillaw28.PacketReads'. -/
def packetReadsUptoCard : Claim7 := { stood := { row := packetReadsUptoRow, standIns := [], harness := (true, "8f19c985a230abab09ae99326ae0393efcc1eb2c70b21afa7b76d1705f56958c"), looks := false }, kinds := [], alts := [], laidByText := true, laidKinds := [.data], laidTests := true, laidLooks := .later }
def PacketReadsUptoCardSaid : Prop := Claim7.holds Tryd.pinned (.plain (OpenSpec.upto packetReadsSpec)) packetReadsUptoCard

/-- THE SECOND FORM's CARD OF 'counterfoillaw28.PacketNames'. -/
def packetNamesUptoCard : Claim7 := { stood := { row := packetNamesUptoRow, standIns := [], harness := (true, "8f19c985a230abab09ae99326ae0393efcc1eb2c70b21afa7b76d1705f56958c"), looks := false }, kinds := [], alts := [], laidByText := true, laidKinds := [.data], laidTests := true, laidLooks := .later }
def PacketNamesUptoCardSaid : Prop := Claim7.holds Tryd.pinned (.plain (OpenSpec.upto packetNamesSpec)) packetNamesUptoCard

/-- THE SECOND FORM's CARD OF 'counterfoillaw28.PacketCarries'. -/
def packetCarriesUptoCard : Claim7 := { stood := { row := packetCarriesUptoRow, standIns := [], harness := (true, "8f19c985a230abab09ae99326ae0393efcc1eb2c70b21afa7b76d1705f56958c"), looks := false }, kinds := [], alts := [], laidByText := true, laidKinds := [.data], laidTests := true, laidLooks := .later }
def PacketCarriesUptoCardSaid : Prop := Claim7.holds Tryd.pinned (.plain (OpenSpec.upto packetCarriesSpec)) packetCarriesUptoCard
end Rows
end Go.Proofs.YtmekadkmmddocaaDoor
