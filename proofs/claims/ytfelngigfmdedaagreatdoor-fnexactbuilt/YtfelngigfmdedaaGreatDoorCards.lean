/-
  DERIVED. GIVEN WITH THE SEED: THE CARDS: each row of YtfelngigfmdedaaGreatDoorRows.lean that lists a variable, with what it lists TIED to the program's text (the seventh form; the later family's looks); each row that meets fmt, with fmt's text TOLD by the authors' own Lean function (tested against real Go, not proved from fmt's source: count such statements apart). THE CARD IS WHAT COUNTS. Prove the row's statement (the work); the ties are given (YtfelngigfmdedaaGreatDoorTie.lean); close each card by the builder's one call (the guide's Derived/Test/ToyasCard.lean, 'card_holds'). Laid BY PROGRAM, IN A SANDBOX (cutbox-door.mjs). By AI agents, Wed Nov 11 2026. No macro, syntax, notation, axiom, sorry.
-/
import Derived.Test.YtfelngigfmdedaaGreatDoorRows
import GoSem.ClaimSeven
namespace Go.Proofs.YtfelngigfmdedaaGreatDoor
namespace Rows

/-- THE TIED CARD OF 'laws.FnExactBuilt'. -/
def fnExactBuiltCard : Claim7 := { stood := { row := fnExactBuiltRow, standIns := [], harness := (true, "82883036c47f2bef45df2bd24416e4ab95485a7c1c07c8d0c4ef071821a06209"), looks := true }, kinds := [], alts := [], laidByText := true, laidKinds := [.data, .data, .data, .sentinel, .sentinel, .data, .data, .sentinel, .sentinel, .sentinel], laidTests := true, laidLooks := .later }
def FnExactBuiltCardSaid : Prop := Claim7.holds Tryz.pinned (.plain (OpenSpec.ofChange fnExactBuiltSpec)) fnExactBuiltCard

/-- THE SECOND FORM's CARD OF 'laws.FnExactBuilt'. -/
def fnExactBuiltUptoCard : Claim7 := { stood := { row := fnExactBuiltUptoRow, standIns := [], harness := (true, "82883036c47f2bef45df2bd24416e4ab95485a7c1c07c8d0c4ef071821a06209"), looks := true }, kinds := [], alts := [], laidByText := true, laidKinds := [.data, .data, .data, .sentinel, .sentinel, .data, .data, .sentinel, .sentinel, .sentinel], laidTests := true, laidLooks := .later }
def FnExactBuiltUptoCardSaid : Prop := Claim7.holds Tryz.pinned (.plain (OpenSpec.upto fnExactBuiltSpec)) fnExactBuiltUptoCard
end Rows
end Go.Proofs.YtfelngigfmdedaaGreatDoor
