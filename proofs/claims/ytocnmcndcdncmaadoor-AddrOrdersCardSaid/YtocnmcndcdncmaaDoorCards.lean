/-
  DERIVED. GIVEN WITH THE SEED: THE CARDS: each row of YtocnmcndcdncmaaDoorRows.lean that lists a variable, with what it lists TIED to the program's text (the seventh form; the later family's looks); each row that meets fmt, with fmt's text TOLD by the authors' own Lean function (tested against real Go, not proved from fmt's source: count such statements apart). THE CARD IS WHAT COUNTS. Prove the row's statement (the work); the ties are given (YtocnmcndcdncmaaDoorTie.lean); close each card by the builder's one call (the guide's Derived/Test/ToyasCard.lean, 'card_holds'). Laid BY PROGRAM, IN A SANDBOX (cutbox-door.mjs). By AI agents, Wed Nov 11 2026. No macro, syntax, notation, axiom, sorry.
-/
import Derived.Test.YtocnmcndcdncmaaDoorRows
import GoSem.ClaimSeven
namespace Go.Proofs.YtocnmcndcdncmaaDoor
namespace Rows

/-- THE TIED CARD OF 'counterfoillaw03.AddrOrders'. -/
def addrOrdersCard : Claim7 := { stood := { row := addrOrdersRow, standIns := [], harness := (true, "3ef5085b156475ce3e6ab8d7fa0a4ec71c5051194539877c633d0b4085eb8050"), looks := false }, kinds := [], alts := [], laidByText := true, laidKinds := [.data, .data, .data, .data, .pinned], laidTests := true, laidLooks := .later }
def AddrOrdersCardSaid : Prop := Claim7.holds Tryd.pinned (.plain (OpenSpec.ofChange addrOrdersSpec)) addrOrdersCard

/-- THE TIED CARD OF 'counterfoillaw03.AddrFlows'. -/
def addrFlowsCard : Claim7 := { stood := { row := addrFlowsRow, standIns := [], harness := (true, "3ef5085b156475ce3e6ab8d7fa0a4ec71c5051194539877c633d0b4085eb8050"), looks := false }, kinds := [], alts := [], laidByText := true, laidKinds := [.data, .data, .data, .data, .pinned], laidTests := true, laidLooks := .later }
def AddrFlowsCardSaid : Prop := Claim7.holds Tryd.pinned (.plain (OpenSpec.ofChange addrFlowsSpec)) addrFlowsCard

/-- THE SECOND FORM's CARD OF 'counterfoillaw03.AddrOrders'. -/
def addrOrdersUptoCard : Claim7 := { stood := { row := addrOrdersUptoRow, standIns := [], harness := (true, "3ef5085b156475ce3e6ab8d7fa0a4ec71c5051194539877c633d0b4085eb8050"), looks := false }, kinds := [], alts := [], laidByText := true, laidKinds := [.data, .data, .data, .data, .pinned], laidTests := true, laidLooks := .later }
def AddrOrdersUptoCardSaid : Prop := Claim7.holds Tryd.pinned (.plain (OpenSpec.upto addrOrdersSpec)) addrOrdersUptoCard

/-- THE SECOND FORM's CARD OF 'counterfoillaw03.AddrFlows'. -/
def addrFlowsUptoCard : Claim7 := { stood := { row := addrFlowsUptoRow, standIns := [], harness := (true, "3ef5085b156475ce3e6ab8d7fa0a4ec71c5051194539877c633d0b4085eb8050"), looks := false }, kinds := [], alts := [], laidByText := true, laidKinds := [.data, .data, .data, .data, .pinned], laidTests := true, laidLooks := .later }
def AddrFlowsUptoCardSaid : Prop := Claim7.holds Tryd.pinned (.plain (OpenSpec.upto addrFlowsSpec)) addrFlowsUptoCard
end Rows
end Go.Proofs.YtocnmcndcdncmaaDoor
