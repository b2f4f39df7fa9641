/-
  DERIVED. GIVEN WITH THE SEED: THE PROGRAM's TIES (one call each: nine closed facts by the kernel) AND EACH ROW's TIE, after the 31st guide's Derived/Test/Toyas{Tie, Card}.lean. No idea stands in it: it is a product of the set-up. Laid BY PROGRAM, IN A SANDBOX (cutbox-door.mjs). By AI agents, Wed Nov 11 2026. No macro, syntax, notation, axiom, sorry.
-/
import Derived.Test.YtdcndoincahhiabDoorRows
import Derived.LaidByTextLater
import Derived.SevenTiedAt
import Derived.LaidSub
import Derived.LaidOnce
namespace Go.Proofs.YtdcndoincahhiabDoor
open Go
set_option maxRecDepth 100000
theorem seatTie1 : Tryd.prog.laidByTextLater [("math/bits.deBruijn32tab", Rows.laid_math_bits_deBruijn32tab), ("math/bits.deBruijn64tab", Rows.laid_math_bits_deBruijn64tab), ("internal/strconv.uint64pow10", Rows.laid_internal_strconv_uint64pow10), ("loop.example/g00932/impl.firstVectors", Rows.laid_loop_example_g00932_impl_firstVectors), ("loop.example/g00932/impl.errNameTaken", Rows.laid_loop_example_g00932_impl_errNameTaken), ("loop.example/g00932/impl.errSiteFull", Rows.laid_loop_example_g00932_impl_errSiteFull), ("loop.example/g00932/impl.errTooNear", Rows.laid_loop_example_g00932_impl_errTooNear)] [.data, .data, .data, .data, .sentinel, .sentinel, .sentinel] true :=
  Program.laidByTextLater_by_one 92 8 65 (by kernel_rfl) (by kernel_rfl) (by kernel_rfl) (by kernel_rfl) (by kernel_rfl) (by kernel_rfl) (fun _ _ => by kernel_rfl)
theorem noOwnUnsafe : Tryd.pinned.checked.prog.headLifts.contains "ownunsafe" = false := by kernel_rfl
theorem tie : Tryd.prog.laidByTextLater [("math/bits.deBruijn32tab", Rows.laid_math_bits_deBruijn32tab), ("math/bits.deBruijn64tab", Rows.laid_math_bits_deBruijn64tab), ("internal/strconv.uint64pow10", Rows.laid_internal_strconv_uint64pow10)] [.data, .data, .data] true :=
  Program.laidByTextLater.sub seatTie1 ["math/bits.deBruijn32tab", "math/bits.deBruijn64tab", "internal/strconv.uint64pow10"] (by kernel_rfl) (by kernel_rfl)
theorem fnExactLiftText_row_tie : Rows.fnExactLiftTextRow.laidByTextAt .later Tryd.pinned [.data, .data, .data] true :=
  OpenClaim.laidByTextAt_later rfl rfl tie noOwnUnsafe
theorem tie2 : Tryd.prog.laidByTextLater [("loop.example/g00932/impl.firstVectors", Rows.laid_loop_example_g00932_impl_firstVectors)] [.data] true :=
  Program.laidByTextLater.sub seatTie1 ["loop.example/g00932/impl.firstVectors"] (by kernel_rfl) (by kernel_rfl)
theorem fnExactLiftDirections_row_tie : Rows.fnExactLiftDirectionsRow.laidByTextAt .later Tryd.pinned [.data] true :=
  OpenClaim.laidByTextAt_later rfl rfl tie2 noOwnUnsafe
theorem tie3 : Tryd.prog.laidByTextLater [("loop.example/g00932/impl.errNameTaken", Rows.laid_loop_example_g00932_impl_errNameTaken), ("loop.example/g00932/impl.errSiteFull", Rows.laid_loop_example_g00932_impl_errSiteFull), ("loop.example/g00932/impl.errTooNear", Rows.laid_loop_example_g00932_impl_errTooNear)] [.sentinel, .sentinel, .sentinel] true :=
  Program.laidByTextLater.sub seatTie1 ["loop.example/g00932/impl.errNameTaken", "loop.example/g00932/impl.errSiteFull", "loop.example/g00932/impl.errTooNear"] (by kernel_rfl) (by kernel_rfl)
theorem fnExactBestCrane_row_tie : Rows.fnExactBestCraneRow.laidByTextAt .later Tryd.pinned [.sentinel, .sentinel, .sentinel] true :=
  OpenClaim.laidByTextAt_later rfl rfl tie3 noOwnUnsafe
theorem fnExactLiftTextUpto_row_tie : Rows.fnExactLiftTextUptoRow.laidByTextAt .later Tryd.pinned [.data, .data, .data] true :=
  OpenClaim.laidByTextAt_later rfl rfl tie noOwnUnsafe
theorem fnExactLiftDirectionsUpto_row_tie : Rows.fnExactLiftDirectionsUptoRow.laidByTextAt .later Tryd.pinned [.data] true :=
  OpenClaim.laidByTextAt_later rfl rfl tie2 noOwnUnsafe
theorem fnExactBestCraneUpto_row_tie : Rows.fnExactBestCraneUptoRow.laidByTextAt .later Tryd.pinned [.sentinel, .sentinel, .sentinel] true :=
  OpenClaim.laidByTextAt_later rfl rfl tie3 noOwnUnsafe
end Go.Proofs.YtdcndoincahhiabDoor
