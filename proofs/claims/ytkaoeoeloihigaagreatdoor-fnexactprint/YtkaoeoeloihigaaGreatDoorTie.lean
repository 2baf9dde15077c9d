/-
  DERIVED. GIVEN WITH THE SEED: THE PROGRAM's TIES (one call each: nine closed facts by the kernel) AND EACH ROW's TIE, after the 31st guide's Derived/Test/Toyas{Tie, Card}.lean. No idea stands in it: it is a product of the set-up. Laid BY PROGRAM, IN A SANDBOX (cutbox-door.mjs). By AI agents, Wed Nov 11 2026. No macro, syntax, notation, axiom, sorry.
-/
import Derived.Test.YtkaoeoeloihigaaGreatDoorRows
import Derived.LaidByTextLater
import Derived.SevenTiedAt
import Derived.LaidSub
import Derived.LaidOnce
namespace Go.Proofs.YtkaoeoeloihigaaGreatDoor
open Go
set_option maxRecDepth 100000
theorem seatTie1 : Tryz.prog.laidByTextLater [("math/bits.deBruijn32tab", Rows.laid_math_bits_deBruijn32tab), ("math/bits.deBruijn64tab", Rows.laid_math_bits_deBruijn64tab), ("internal/strconv.uint64pow10", Rows.laid_internal_strconv_uint64pow10), ("loop.example/kilnmill/impl.greatest", Rows.laid_loop_example_kilnmill_impl_greatest), ("loop.example/kilnmill/impl.typeWords", Rows.laid_loop_example_kilnmill_impl_typeWords), ("loop.example/kilnmill/impl.unMarks", Rows.laid_loop_example_kilnmill_impl_unMarks), ("loop.example/kilnmill/impl.binMarks", Rows.laid_loop_example_kilnmill_impl_binMarks), ("loop.example/kilnmill/impl.builtWords", Rows.laid_loop_example_kilnmill_impl_builtWords)] [.data, .data, .data, .data, .data, .data, .data, .data] true :=
  Program.laidByTextLater_by_one 79 8 65 (by kernel_rfl) (by kernel_rfl) (by kernel_rfl) (by kernel_rfl) (by kernel_rfl) (by kernel_rfl) (fun _ _ => by kernel_rfl)
theorem noOwnUnsafe : Tryz.pinned.checked.prog.headLifts.contains "ownunsafe" = false := by kernel_rfl
theorem tie : Tryz.prog.laidByTextLater [("math/bits.deBruijn32tab", Rows.laid_math_bits_deBruijn32tab), ("math/bits.deBruijn64tab", Rows.laid_math_bits_deBruijn64tab), ("internal/strconv.uint64pow10", Rows.laid_internal_strconv_uint64pow10), ("loop.example/kilnmill/impl.greatest", Rows.laid_loop_example_kilnmill_impl_greatest), ("loop.example/kilnmill/impl.typeWords", Rows.laid_loop_example_kilnmill_impl_typeWords), ("loop.example/kilnmill/impl.unMarks", Rows.laid_loop_example_kilnmill_impl_unMarks), ("loop.example/kilnmill/impl.binMarks", Rows.laid_loop_example_kilnmill_impl_binMarks), ("loop.example/kilnmill/impl.builtWords", Rows.laid_loop_example_kilnmill_impl_builtWords)] [.data, .data, .data, .data, .data, .data, .data, .data] true :=
  Program.laidByTextLater.sub seatTie1 ["math/bits.deBruijn32tab", "math/bits.deBruijn64tab", "internal/strconv.uint64pow10", "loop.example/kilnmill/impl.greatest", "loop.example/kilnmill/impl.typeWords", "loop.example/kilnmill/impl.unMarks", "loop.example/kilnmill/impl.binMarks", "loop.example/kilnmill/impl.builtWords"] (by kernel_rfl) (by kernel_rfl)
theorem fnExactPrint_row_tie : Rows.fnExactPrintRow.laidByTextAt .later Tryz.pinned [.data, .data, .data, .data, .data, .data, .data, .data] true :=
  OpenClaim.laidByTextAt_later rfl rfl tie noOwnUnsafe
theorem fnExactPrintUpto_row_tie : Rows.fnExactPrintUptoRow.laidByTextAt .later Tryz.pinned [.data, .data, .data, .data, .data, .data, .data, .data] true :=
  OpenClaim.laidByTextAt_later rfl rfl tie noOwnUnsafe
end Go.Proofs.YtkaoeoeloihigaaGreatDoor
