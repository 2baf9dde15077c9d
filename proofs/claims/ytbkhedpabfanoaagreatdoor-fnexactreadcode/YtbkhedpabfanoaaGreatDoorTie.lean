/-
  DERIVED. GIVEN WITH THE SEED: THE PROGRAM's TIES (one call each: nine closed facts by the kernel) AND EACH ROW's TIE, after the 31st guide's Derived/Test/Toyas{Tie, Card}.lean. No idea stands in it: it is a product of the set-up. Laid BY PROGRAM, IN A SANDBOX (cutbox-door.mjs). By AI agents, Wed Nov 11 2026. No macro, syntax, notation, axiom, sorry.
-/
import Derived.Test.YtbkhedpabfanoaaGreatDoorRows
import Derived.LaidByTextLater
import Derived.SevenTiedAt
import Derived.LaidSub
import Derived.LaidOnce
namespace Go.Proofs.YtbkhedpabfanoaaGreatDoor
open Go
set_option maxRecDepth 100000
theorem seatTie1 : Tryz.prog.laidByTextLater [("errors.errorType", Rows.laid_errors_errorType), ("loop.example/kilnmill/impl.builtWords", Rows.laid_loop_example_kilnmill_impl_builtWords), ("loop.example/kilnmill/impl.builtTypes", Rows.laid_loop_example_kilnmill_impl_builtTypes), ("loop.example/kilnmill/impl.insRows", Rows.laid_loop_example_kilnmill_impl_insRows), ("loop.example/kilnmill/impl.errHead", Rows.laid_loop_example_kilnmill_impl_errHead), ("loop.example/kilnmill/impl.errForm", Rows.laid_loop_example_kilnmill_impl_errForm), ("loop.example/kilnmill/impl.errShort", Rows.laid_loop_example_kilnmill_impl_errShort), ("loop.example/kilnmill/impl.errRest", Rows.laid_loop_example_kilnmill_impl_errRest), ("loop.example/kilnmill/impl.errGreat", Rows.laid_loop_example_kilnmill_impl_errGreat), ("loop.example/kilnmill/impl.errZero", Rows.laid_loop_example_kilnmill_impl_errZero), ("loop.example/kilnmill/impl.errCode", Rows.laid_loop_example_kilnmill_impl_errCode)] [.handle, .data, .data, .data, .sentinel, .sentinel, .sentinel, .sentinel, .sentinel, .sentinel, .sentinel] true :=
  Program.laidByTextLater_by_one 228 8 86 (by kernel_rfl) (by kernel_rfl) (by kernel_rfl) (by kernel_rfl) (by kernel_rfl) (by kernel_rfl) (fun _ _ => by kernel_rfl)
theorem noOwnUnsafe : Tryz.pinned.checked.prog.headLifts.contains "ownunsafe" = false := by kernel_rfl
theorem tie : Tryz.prog.laidByTextLater [("errors.errorType", Rows.laid_errors_errorType), ("loop.example/kilnmill/impl.builtWords", Rows.laid_loop_example_kilnmill_impl_builtWords), ("loop.example/kilnmill/impl.builtTypes", Rows.laid_loop_example_kilnmill_impl_builtTypes), ("loop.example/kilnmill/impl.insRows", Rows.laid_loop_example_kilnmill_impl_insRows), ("loop.example/kilnmill/impl.errHead", Rows.laid_loop_example_kilnmill_impl_errHead), ("loop.example/kilnmill/impl.errForm", Rows.laid_loop_example_kilnmill_impl_errForm), ("loop.example/kilnmill/impl.errShort", Rows.laid_loop_example_kilnmill_impl_errShort), ("loop.example/kilnmill/impl.errRest", Rows.laid_loop_example_kilnmill_impl_errRest), ("loop.example/kilnmill/impl.errGreat", Rows.laid_loop_example_kilnmill_impl_errGreat), ("loop.example/kilnmill/impl.errZero", Rows.laid_loop_example_kilnmill_impl_errZero), ("loop.example/kilnmill/impl.errCode", Rows.laid_loop_example_kilnmill_impl_errCode)] [.handle, .data, .data, .data, .sentinel, .sentinel, .sentinel, .sentinel, .sentinel, .sentinel, .sentinel] true :=
  Program.laidByTextLater.sub seatTie1 ["errors.errorType", "loop.example/kilnmill/impl.builtWords", "loop.example/kilnmill/impl.builtTypes", "loop.example/kilnmill/impl.insRows", "loop.example/kilnmill/impl.errHead", "loop.example/kilnmill/impl.errForm", "loop.example/kilnmill/impl.errShort", "loop.example/kilnmill/impl.errRest", "loop.example/kilnmill/impl.errGreat", "loop.example/kilnmill/impl.errZero", "loop.example/kilnmill/impl.errCode"] (by kernel_rfl) (by kernel_rfl)
theorem fnExactReadCode_row_tie : Rows.fnExactReadCodeRow.laidByTextAt .later Tryz.pinned [.handle, .data, .data, .data, .sentinel, .sentinel, .sentinel, .sentinel, .sentinel, .sentinel, .sentinel] true :=
  OpenClaim.laidByTextAt_later rfl rfl tie noOwnUnsafe
theorem fnExactReadCodeUpto_row_tie : Rows.fnExactReadCodeUptoRow.laidByTextAt .later Tryz.pinned [.handle, .data, .data, .data, .sentinel, .sentinel, .sentinel, .sentinel, .sentinel, .sentinel, .sentinel] true :=
  OpenClaim.laidByTextAt_later rfl rfl tie noOwnUnsafe
end Go.Proofs.YtbkhedpabfanoaaGreatDoor
