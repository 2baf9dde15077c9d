/-
  DERIVED. GIVEN WITH THE SEED: THE CARDS: each row of YtahibkjkpmdhgaaGreatDoorRows.lean that lists a variable, with what it lists TIED to the program's text (the seventh form; the later family's looks); each row that meets fmt, with fmt's text TOLD by the authors' own Lean function (tested against real Go, not proved from fmt's source: count such statements apart). THE CARD IS WHAT COUNTS. Prove the row's statement (the work); the ties are given (YtahibkjkpmdhgaaGreatDoorTie.lean); close each card by the builder's one call (the guide's Derived/Test/ToyasCard.lean, 'card_holds'). Laid BY PROGRAM, IN A SANDBOX (cutbox-door.mjs). By AI agents, Wed Nov 11 2026. No macro, syntax, notation, axiom, sorry.
-/
import Derived.Test.YtahibkjkpmdhgaaGreatDoorRows
import GoSem.ClaimSeven
namespace Go.Proofs.YtahibkjkpmdhgaaGreatDoor
namespace Rows

/-- THE TIED CARD OF 'laws.FnExactValidMachine'. -/
def fnExactValidMachineCard : Claim7 := { stood := { row := fnExactValidMachineRow, standIns := [], harness := (true, "99d25d5719dcaa616a772c2238c5cbc0e9fab5b1328a98a92ee32d08c0c59aac"), looks := false }, kinds := [], alts := [], laidByText := true, laidKinds := [.data, .data, .data], laidTests := true, laidLooks := .later }
def FnExactValidMachineCardSaid : Prop := Claim7.holds Tryz.pinned (.plain (OpenSpec.ofChange fnExactValidMachineSpec)) fnExactValidMachineCard

/-- THE TIED CARD OF 'laws.FnExactShown'. -/
def fnExactShownCard : Claim7 := { stood := { row := fnExactShownRow, standIns := [], harness := (true, "99d25d5719dcaa616a772c2238c5cbc0e9fab5b1328a98a92ee32d08c0c59aac"), looks := false }, kinds := [], alts := [], laidByText := true, laidKinds := [.data, .data, .data], laidTests := true, laidLooks := .later }
def FnExactShownCardSaid : Prop := Claim7.holds Tryz.pinned (.plain (OpenSpec.ofChange fnExactShownSpec)) fnExactShownCard

/-- THE SECOND FORM's CARD OF 'laws.FnExactValidMachine'. -/
def fnExactValidMachineUptoCard : Claim7 := { stood := { row := fnExactValidMachineUptoRow, standIns := [], harness := (true, "99d25d5719dcaa616a772c2238c5cbc0e9fab5b1328a98a92ee32d08c0c59aac"), looks := false }, kinds := [], alts := [], laidByText := true, laidKinds := [.data, .data, .data], laidTests := true, laidLooks := .later }
def FnExactValidMachineUptoCardSaid : Prop := Claim7.holds Tryz.pinned (.plain (OpenSpec.upto fnExactValidMachineSpec)) fnExactValidMachineUptoCard

/-- THE SECOND FORM's CARD OF 'laws.FnExactShown'. -/
def fnExactShownUptoCard : Claim7 := { stood := { row := fnExactShownUptoRow, standIns := [], harness := (true, "99d25d5719dcaa616a772c2238c5cbc0e9fab5b1328a98a92ee32d08c0c59aac"), looks := false }, kinds := [], alts := [], laidByText := true, laidKinds := [.data, .data, .data], laidTests := true, laidLooks := .later }
def FnExactShownUptoCardSaid : Prop := Claim7.holds Tryz.pinned (.plain (OpenSpec.upto fnExactShownSpec)) fnExactShownUptoCard
end Rows
end Go.Proofs.YtahibkjkpmdhgaaGreatDoor
