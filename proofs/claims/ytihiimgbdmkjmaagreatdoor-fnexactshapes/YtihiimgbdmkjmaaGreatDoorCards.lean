/-
  DERIVED. GIVEN WITH THE SEED: THE CARDS: each row of YtihiimgbdmkjmaaGreatDoorRows.lean that lists a variable, with what it lists TIED to the program's text (the seventh form; the later family's looks); each row that meets fmt, with fmt's text TOLD by the authors' own Lean function (tested against real Go, not proved from fmt's source: count such statements apart). THE CARD IS WHAT COUNTS. Prove the row's statement (the work); the ties are given (YtihiimgbdmkjmaaGreatDoorTie.lean); close each card by the builder's one call (the guide's Derived/Test/ToyasCard.lean, 'card_holds'). Laid BY PROGRAM, IN A SANDBOX (cutbox-door.mjs). By AI agents, Wed Nov 11 2026. No macro, syntax, notation, axiom, sorry.
-/
import Derived.Test.YtihiimgbdmkjmaaGreatDoorRows
import GoSem.ClaimSeven
namespace Go.Proofs.YtihiimgbdmkjmaaGreatDoor
namespace Rows

/-- THE TIED CARD OF 'laws.FnExactShapes'. -/
def fnExactShapesCard : Claim7 := { stood := { row := fnExactShapesRow, standIns := [], harness := (true, "8155c34f36efc1501497f5a089b9bdb96bb049293d5375e661b02c89924b29e0"), looks := false }, kinds := [], alts := [], laidByText := true, laidKinds := [.data, .data, .data], laidTests := true, laidLooks := .later }
def FnExactShapesCardSaid : Prop := Claim7.holds Tryz.pinned (.plain (OpenSpec.ofChange fnExactShapesSpec)) fnExactShapesCard

/-- THE SECOND FORM's CARD OF 'laws.FnExactShapes'. -/
def fnExactShapesUptoCard : Claim7 := { stood := { row := fnExactShapesUptoRow, standIns := [], harness := (true, "8155c34f36efc1501497f5a089b9bdb96bb049293d5375e661b02c89924b29e0"), looks := false }, kinds := [], alts := [], laidByText := true, laidKinds := [.data, .data, .data], laidTests := true, laidLooks := .later }
def FnExactShapesUptoCardSaid : Prop := Claim7.holds Tryz.pinned (.plain (OpenSpec.upto fnExactShapesSpec)) fnExactShapesUptoCard
end Rows
end Go.Proofs.YtihiimgbdmkjmaaGreatDoor
