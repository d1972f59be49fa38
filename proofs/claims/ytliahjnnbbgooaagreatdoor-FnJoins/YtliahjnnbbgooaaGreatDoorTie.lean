/-
  DERIVED. GIVEN WITH THE SEED: THE PROGRAM's TIES (one call each: nine closed facts by the kernel) AND EACH ROW's TIE, after the 31st guide's Derived/Test/Toyas{Tie, Card}.lean. No idea stands in it: it is a product of the set-up. Laid BY PROGRAM, IN A SANDBOX (cutbox-door.mjs). By AI agents, Wed Nov 11 2026. No macro, syntax, notation, axiom, sorry.
-/
import Derived.Test.YtliahjnnbbgooaaGreatDoorRows
import Derived.LaidByTextLater
import Derived.SevenTiedAt
import Derived.LaidSub
import Derived.LaidOnce
namespace Go.Proofs.YtliahjnnbbgooaaGreatDoor
open Go
set_option maxRecDepth 100000
theorem seatTie1 : Tryz.prog.laidByTextLater [("math/bits.deBruijn32tab", Rows.laid_math_bits_deBruijn32tab), ("math/bits.deBruijn64tab", Rows.laid_math_bits_deBruijn64tab), ("internal/strconv.uint64pow10", Rows.laid_internal_strconv_uint64pow10), ("errors.errorType", Rows.laid_errors_errorType), ("loop.example/punch/impl.layouts", Rows.laid_loop_example_punch_impl_layouts), ("loop.example/punch/impl.errGone", Rows.laid_loop_example_punch_impl_errGone), ("loop.example/punch/impl.errOver", Rows.laid_loop_example_punch_impl_errOver), ("loop.example/punch/impl.stateNames", Rows.laid_loop_example_punch_impl_stateNames), ("loop.example/punch/impl.handlerNames", Rows.laid_loop_example_punch_impl_handlerNames), ("loop.example/punch/impl.typeNames", Rows.laid_loop_example_punch_impl_typeNames)] [.data, .data, .data, .handle, .data, .sentinel, .sentinel, .data, .data, .data] true :=
  Program.laidByTextLater_by_one 131 8 173 (by kernel_rfl) (by kernel_rfl) (by kernel_rfl) (by kernel_rfl) (by kernel_rfl) (by kernel_rfl) (fun _ _ => by kernel_rfl)
theorem noOwnUnsafe : Tryz.pinned.checked.prog.headLifts.contains "ownunsafe" = false := by kernel_rfl
theorem tie : Tryz.prog.laidByTextLater [("math/bits.deBruijn32tab", Rows.laid_math_bits_deBruijn32tab), ("math/bits.deBruijn64tab", Rows.laid_math_bits_deBruijn64tab), ("internal/strconv.uint64pow10", Rows.laid_internal_strconv_uint64pow10), ("errors.errorType", Rows.laid_errors_errorType), ("loop.example/punch/impl.layouts", Rows.laid_loop_example_punch_impl_layouts), ("loop.example/punch/impl.errGone", Rows.laid_loop_example_punch_impl_errGone), ("loop.example/punch/impl.errOver", Rows.laid_loop_example_punch_impl_errOver), ("loop.example/punch/impl.stateNames", Rows.laid_loop_example_punch_impl_stateNames), ("loop.example/punch/impl.handlerNames", Rows.laid_loop_example_punch_impl_handlerNames), ("loop.example/punch/impl.typeNames", Rows.laid_loop_example_punch_impl_typeNames)] [.data, .data, .data, .handle, .data, .sentinel, .sentinel, .data, .data, .data] true :=
  Program.laidByTextLater.sub seatTie1 ["math/bits.deBruijn32tab", "math/bits.deBruijn64tab", "internal/strconv.uint64pow10", "errors.errorType", "loop.example/punch/impl.layouts", "loop.example/punch/impl.errGone", "loop.example/punch/impl.errOver", "loop.example/punch/impl.stateNames", "loop.example/punch/impl.handlerNames", "loop.example/punch/impl.typeNames"] (by kernel_rfl) (by kernel_rfl)
theorem fnJoins_row_tie : Rows.fnJoinsRow.laidByTextAt .later Tryz.pinned [.data, .data, .data, .handle, .data, .sentinel, .sentinel, .data, .data, .data] true :=
  OpenClaim.laidByTextAt_later rfl rfl tie noOwnUnsafe
theorem fnJoinsUpto_row_tie : Rows.fnJoinsUptoRow.laidByTextAt .later Tryz.pinned [.data, .data, .data, .handle, .data, .sentinel, .sentinel, .data, .data, .data] true :=
  OpenClaim.laidByTextAt_later rfl rfl tie noOwnUnsafe
end Go.Proofs.YtliahjnnbbgooaaGreatDoor
