/-
  DERIVED. GIVEN WITH THE SEED: THE PROGRAM's TIES (one call each: nine closed facts by the kernel) AND EACH ROW's TIE, after the 31st guide's Derived/Test/Toyas{Tie, Card}.lean. No idea stands in it: it is a product of the set-up. Laid BY PROGRAM, IN A SANDBOX (cutbox-door.mjs). By AI agents, Wed Nov 11 2026. No macro, syntax, notation, axiom, sorry.
-/
import Derived.Test.YtahibkjkpmdhgaaGreatDoorRows
import Derived.LaidByTextLater
import Derived.SevenTiedAt
import Derived.LaidSub
import Derived.LaidOnce
namespace Go.Proofs.YtahibkjkpmdhgaaGreatDoor
open Go
set_option maxRecDepth 100000
theorem seatTie1 : Tryz.prog.laidByTextLater [("loop.example/kilnmill/impl.builtWords", Rows.laid_loop_example_kilnmill_impl_builtWords), ("loop.example/kilnmill/impl.builtTypes", Rows.laid_loop_example_kilnmill_impl_builtTypes), ("loop.example/kilnmill/impl.insRows", Rows.laid_loop_example_kilnmill_impl_insRows)] [.data, .data, .data] true :=
  Program.laidByTextLater_by_one 88 8 86 (by kernel_rfl) (by kernel_rfl) (by kernel_rfl) (by kernel_rfl) (by kernel_rfl) (by kernel_rfl) (fun _ _ => by kernel_rfl)
theorem noOwnUnsafe : Tryz.pinned.checked.prog.headLifts.contains "ownunsafe" = false := by kernel_rfl
theorem tie : Tryz.prog.laidByTextLater [("loop.example/kilnmill/impl.builtWords", Rows.laid_loop_example_kilnmill_impl_builtWords), ("loop.example/kilnmill/impl.builtTypes", Rows.laid_loop_example_kilnmill_impl_builtTypes), ("loop.example/kilnmill/impl.insRows", Rows.laid_loop_example_kilnmill_impl_insRows)] [.data, .data, .data] true :=
  Program.laidByTextLater.sub seatTie1 ["loop.example/kilnmill/impl.builtWords", "loop.example/kilnmill/impl.builtTypes", "loop.example/kilnmill/impl.insRows"] (by kernel_rfl) (by kernel_rfl)
theorem fnExactValidMachine_row_tie : Rows.fnExactValidMachineRow.laidByTextAt .later Tryz.pinned [.data, .data, .data] true :=
  OpenClaim.laidByTextAt_later rfl rfl tie noOwnUnsafe
theorem fnExactShown_row_tie : Rows.fnExactShownRow.laidByTextAt .later Tryz.pinned [.data, .data, .data] true :=
  OpenClaim.laidByTextAt_later rfl rfl tie noOwnUnsafe
theorem fnExactValidMachineUpto_row_tie : Rows.fnExactValidMachineUptoRow.laidByTextAt .later Tryz.pinned [.data, .data, .data] true :=
  OpenClaim.laidByTextAt_later rfl rfl tie noOwnUnsafe
theorem fnExactShownUpto_row_tie : Rows.fnExactShownUptoRow.laidByTextAt .later Tryz.pinned [.data, .data, .data] true :=
  OpenClaim.laidByTextAt_later rfl rfl tie noOwnUnsafe
end Go.Proofs.YtahibkjkpmdhgaaGreatDoor
