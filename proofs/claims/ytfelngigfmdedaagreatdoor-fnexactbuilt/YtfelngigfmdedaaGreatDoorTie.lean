/-
  DERIVED. GIVEN WITH THE SEED: THE PROGRAM's TIES (one call each: nine closed facts by the kernel) AND EACH ROW's TIE, after the 31st guide's Derived/Test/Toyas{Tie, Card}.lean. No idea stands in it: it is a product of the set-up. Laid BY PROGRAM, IN A SANDBOX (cutbox-door.mjs). By AI agents, Wed Nov 11 2026. No macro, syntax, notation, axiom, sorry.
-/
import Derived.Test.YtfelngigfmdedaaGreatDoorRows
import Derived.LaidByTextLater
import Derived.SevenTiedAt
import Derived.LaidSub
import Derived.LaidOnce
namespace Go.Proofs.YtfelngigfmdedaaGreatDoor
open Go
set_option maxRecDepth 100000
theorem seatTie1 : Tryz.prog.laidByTextLater [("math/bits.deBruijn32tab", Rows.laid_math_bits_deBruijn32tab), ("math/bits.deBruijn64tab", Rows.laid_math_bits_deBruijn64tab), ("internal/strconv.uint64pow10", Rows.laid_internal_strconv_uint64pow10), ("strconv.ErrRange", Rows.laid_strconv_ErrRange), ("strconv.ErrSyntax", Rows.laid_strconv_ErrSyntax), ("loop.example/kilnmill/impl.builtWords", Rows.laid_loop_example_kilnmill_impl_builtWords), ("loop.example/kilnmill/impl.builtTypes", Rows.laid_loop_example_kilnmill_impl_builtTypes), ("loop.example/kilnmill/impl.errType", Rows.laid_loop_example_kilnmill_impl_errType), ("loop.example/kilnmill/impl.errRange", Rows.laid_loop_example_kilnmill_impl_errRange), ("loop.example/kilnmill/impl.errNumber", Rows.laid_loop_example_kilnmill_impl_errNumber)] [.data, .data, .data, .sentinel, .sentinel, .data, .data, .sentinel, .sentinel, .sentinel] true :=
  Program.laidByTextLater_by_one 175 8 65 (by kernel_rfl) (by kernel_rfl) (by kernel_rfl) (by kernel_rfl) (by kernel_rfl) (by kernel_rfl) (fun _ _ => by kernel_rfl)
theorem noOwnUnsafe : Tryz.pinned.checked.prog.headLifts.contains "ownunsafe" = false := by kernel_rfl
theorem tie : Tryz.prog.laidByTextLater [("math/bits.deBruijn32tab", Rows.laid_math_bits_deBruijn32tab), ("math/bits.deBruijn64tab", Rows.laid_math_bits_deBruijn64tab), ("internal/strconv.uint64pow10", Rows.laid_internal_strconv_uint64pow10), ("strconv.ErrRange", Rows.laid_strconv_ErrRange), ("strconv.ErrSyntax", Rows.laid_strconv_ErrSyntax), ("loop.example/kilnmill/impl.builtWords", Rows.laid_loop_example_kilnmill_impl_builtWords), ("loop.example/kilnmill/impl.builtTypes", Rows.laid_loop_example_kilnmill_impl_builtTypes), ("loop.example/kilnmill/impl.errType", Rows.laid_loop_example_kilnmill_impl_errType), ("loop.example/kilnmill/impl.errRange", Rows.laid_loop_example_kilnmill_impl_errRange), ("loop.example/kilnmill/impl.errNumber", Rows.laid_loop_example_kilnmill_impl_errNumber)] [.data, .data, .data, .sentinel, .sentinel, .data, .data, .sentinel, .sentinel, .sentinel] true :=
  Program.laidByTextLater.sub seatTie1 ["math/bits.deBruijn32tab", "math/bits.deBruijn64tab", "internal/strconv.uint64pow10", "strconv.ErrRange", "strconv.ErrSyntax", "loop.example/kilnmill/impl.builtWords", "loop.example/kilnmill/impl.builtTypes", "loop.example/kilnmill/impl.errType", "loop.example/kilnmill/impl.errRange", "loop.example/kilnmill/impl.errNumber"] (by kernel_rfl) (by kernel_rfl)
theorem fnExactBuilt_row_tie : Rows.fnExactBuiltRow.laidByTextAt .later Tryz.pinned [.data, .data, .data, .sentinel, .sentinel, .data, .data, .sentinel, .sentinel, .sentinel] true :=
  OpenClaim.laidByTextAt_later rfl rfl tie noOwnUnsafe
theorem fnExactBuiltUpto_row_tie : Rows.fnExactBuiltUptoRow.laidByTextAt .later Tryz.pinned [.data, .data, .data, .sentinel, .sentinel, .data, .data, .sentinel, .sentinel, .sentinel] true :=
  OpenClaim.laidByTextAt_later rfl rfl tie noOwnUnsafe
end Go.Proofs.YtfelngigfmdedaaGreatDoor
