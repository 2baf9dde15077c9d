/-
  DERIVED. GIVEN WITH THE SEED: THE CARDS: each row of YtgoigbegahlfaaaDoorRows.lean that lists a variable, with what it lists TIED to the program's text (the seventh form; the later family's looks); each row that meets fmt, with fmt's text TOLD by the authors' own Lean function (tested against real Go, not proved from fmt's source: count such statements apart). THE CARD IS WHAT COUNTS. Prove the row's statement (the work); the ties are given (YtgoigbegahlfaaaDoorTie.lean); close each card by the builder's one call (the guide's Derived/Test/ToyasCard.lean, 'card_holds'). Laid BY PROGRAM, IN A SANDBOX (cutbox-door.mjs). By AI agents, Wed Nov 11 2026. No macro, syntax, notation, axiom, sorry.
-/
import Derived.Test.YtgoigbegahlfaaaDoorRows
import GoSem.ClaimSeven
namespace Go.Proofs.YtgoigbegahlfaaaDoor
namespace Rows

/-- THE TIED CARD OF 'laws.FnExactUnary'. -/
def fnExactUnaryCard : Claim7 := { stood := { row := fnExactUnaryRow, standIns := [], harness := (true, "92afdebc52c00c6f61dac4780dde8f05b9722e215774bd1edc901120ae881420"), looks := false }, kinds := [], alts := [], laidByText := true, laidKinds := [.sentinel], laidTests := true, laidLooks := .later }
def FnExactUnaryCardSaid : Prop := Claim7.holds Tryd.pinned (.plain (OpenSpec.ofChange fnExactUnarySpec)) fnExactUnaryCard

/-- THE TIED CARD OF 'laws.FnExactConvert'. -/
def fnExactConvertCard : Claim7 := { stood := { row := fnExactConvertRow, standIns := [], harness := (true, "92afdebc52c00c6f61dac4780dde8f05b9722e215774bd1edc901120ae881420"), looks := false }, kinds := [], alts := [], laidByText := true, laidKinds := [.sentinel], laidTests := true, laidLooks := .later }
def FnExactConvertCardSaid : Prop := Claim7.holds Tryd.pinned (.plain (OpenSpec.ofChange fnExactConvertSpec)) fnExactConvertCard

/-- THE SECOND FORM's CARD OF 'laws.FnExactUnary'. -/
def fnExactUnaryUptoCard : Claim7 := { stood := { row := fnExactUnaryUptoRow, standIns := [], harness := (true, "92afdebc52c00c6f61dac4780dde8f05b9722e215774bd1edc901120ae881420"), looks := false }, kinds := [], alts := [], laidByText := true, laidKinds := [.sentinel], laidTests := true, laidLooks := .later }
def FnExactUnaryUptoCardSaid : Prop := Claim7.holds Tryd.pinned (.plain (OpenSpec.upto fnExactUnarySpec)) fnExactUnaryUptoCard

/-- THE SECOND FORM's CARD OF 'laws.FnExactConvert'. -/
def fnExactConvertUptoCard : Claim7 := { stood := { row := fnExactConvertUptoRow, standIns := [], harness := (true, "92afdebc52c00c6f61dac4780dde8f05b9722e215774bd1edc901120ae881420"), looks := false }, kinds := [], alts := [], laidByText := true, laidKinds := [.sentinel], laidTests := true, laidLooks := .later }
def FnExactConvertUptoCardSaid : Prop := Claim7.holds Tryd.pinned (.plain (OpenSpec.upto fnExactConvertSpec)) fnExactConvertUptoCard
end Rows
end Go.Proofs.YtgoigbegahlfaaaDoor
