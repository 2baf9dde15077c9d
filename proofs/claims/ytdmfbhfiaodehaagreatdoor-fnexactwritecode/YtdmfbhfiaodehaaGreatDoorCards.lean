/-
  DERIVED. GIVEN WITH THE SEED: THE CARDS: each row of YtdmfbhfiaodehaaGreatDoorRows.lean that lists a variable, with what it lists TIED to the program's text (the seventh form; the later family's looks); each row that meets fmt, with fmt's text TOLD by the authors' own Lean function (tested against real Go, not proved from fmt's source: count such statements apart). THE CARD IS WHAT COUNTS. Prove the row's statement (the work); the ties are given (YtdmfbhfiaodehaaGreatDoorTie.lean); close each card by the builder's one call (the guide's Derived/Test/ToyasCard.lean, 'card_holds'). Laid BY PROGRAM, IN A SANDBOX (cutbox-door.mjs). By AI agents, Wed Nov 11 2026. No macro, syntax, notation, axiom, sorry.
-/
import Derived.Test.YtdmfbhfiaodehaaGreatDoorRows
import GoSem.ClaimSeven
namespace Go.Proofs.YtdmfbhfiaodehaaGreatDoor
namespace Rows

/-- THE TIED CARD OF 'laws.FnExactWriteCode'. -/
def fnExactWriteCodeCard : Claim7 := { stood := { row := fnExactWriteCodeRow, standIns := [], harness := (true, "ccd969d7e09279a6416b9e95e110141fbbd554af7b34154096f874a326d7076d"), looks := false }, kinds := [], alts := [], laidByText := true, laidKinds := [.data, .data, .data], laidTests := true, laidLooks := .later }
def FnExactWriteCodeCardSaid : Prop := Claim7.holds Tryz.pinned (.plain (OpenSpec.ofChange fnExactWriteCodeSpec)) fnExactWriteCodeCard

/-- THE SECOND FORM's CARD OF 'laws.FnExactWriteCode'. -/
def fnExactWriteCodeUptoCard : Claim7 := { stood := { row := fnExactWriteCodeUptoRow, standIns := [], harness := (true, "ccd969d7e09279a6416b9e95e110141fbbd554af7b34154096f874a326d7076d"), looks := false }, kinds := [], alts := [], laidByText := true, laidKinds := [.data, .data, .data], laidTests := true, laidLooks := .later }
def FnExactWriteCodeUptoCardSaid : Prop := Claim7.holds Tryz.pinned (.plain (OpenSpec.upto fnExactWriteCodeSpec)) fnExactWriteCodeUptoCard
end Rows
end Go.Proofs.YtdmfbhfiaodehaaGreatDoor
