/-
  DERIVED. GIVEN WITH THE SEED: THE PROGRAM's TIES (one call each: nine closed facts by the kernel) AND EACH ROW's TIE, after the 31st guide's Derived/Test/Toyas{Tie, Card}.lean. No idea stands in it: it is a product of the set-up. Laid BY PROGRAM, IN A SANDBOX (cutbox-door.mjs). By AI agents, Wed Nov 11 2026. No macro, syntax, notation, axiom, sorry.
-/
import Derived.Test.YtnflaeimiegepacGreatDoorRows
import Derived.LaidByTextLater
import Derived.SevenTiedAt
import Derived.LaidSub
import Derived.LaidOnce
namespace Go.Proofs.YtnflaeimiegepacGreatDoor
open Go
set_option maxRecDepth 100000
theorem seatTie1 : Tryz.prog.laidByTextLater [("loop.example/g00932/impl.firstVectors", Rows.laid_loop_example_g00932_impl_firstVectors), ("loop.example/g00932/impl.errNameTaken", Rows.laid_loop_example_g00932_impl_errNameTaken), ("loop.example/g00932/impl.errSiteFull", Rows.laid_loop_example_g00932_impl_errSiteFull), ("loop.example/g00932/impl.errTooNear", Rows.laid_loop_example_g00932_impl_errTooNear)] [.data, .sentinel, .sentinel, .sentinel] true :=
  Program.laidByTextLater_by_one 77 8 13 (by kernel_rfl) (by kernel_rfl) (by kernel_rfl) (by kernel_rfl) (by kernel_rfl) (by kernel_rfl) (fun _ _ => by kernel_rfl)
theorem noOwnUnsafe : Tryz.pinned.checked.prog.headLifts.contains "ownunsafe" = false := by kernel_rfl
theorem tie : Tryz.prog.laidByTextLater [("loop.example/g00932/impl.firstVectors", Rows.laid_loop_example_g00932_impl_firstVectors)] [.data] true :=
  Program.laidByTextLater.sub seatTie1 ["loop.example/g00932/impl.firstVectors"] (by kernel_rfl) (by kernel_rfl)
theorem fnExactLiftTime_row_tie : Rows.fnExactLiftTimeRow.laidByTextAt .later Tryz.pinned [.data] true :=
  OpenClaim.laidByTextAt_later rfl rfl tie noOwnUnsafe
theorem fnExactJobTime_row_tie : Rows.fnExactJobTimeRow.laidByTextAt .later Tryz.pinned [.data] true :=
  OpenClaim.laidByTextAt_later rfl rfl tie noOwnUnsafe
theorem tie2 : Tryz.prog.laidByTextLater [("loop.example/g00932/impl.firstVectors", Rows.laid_loop_example_g00932_impl_firstVectors), ("loop.example/g00932/impl.errNameTaken", Rows.laid_loop_example_g00932_impl_errNameTaken), ("loop.example/g00932/impl.errSiteFull", Rows.laid_loop_example_g00932_impl_errSiteFull), ("loop.example/g00932/impl.errTooNear", Rows.laid_loop_example_g00932_impl_errTooNear)] [.data, .sentinel, .sentinel, .sentinel] true :=
  Program.laidByTextLater.sub seatTie1 ["loop.example/g00932/impl.firstVectors", "loop.example/g00932/impl.errNameTaken", "loop.example/g00932/impl.errSiteFull", "loop.example/g00932/impl.errTooNear"] (by kernel_rfl) (by kernel_rfl)
theorem fnExactTimeTable_row_tie : Rows.fnExactTimeTableRow.laidByTextAt .later Tryz.pinned [.data, .sentinel, .sentinel, .sentinel] true :=
  OpenClaim.laidByTextAt_later rfl rfl tie2 noOwnUnsafe
theorem fnExactFastestCrane_row_tie : Rows.fnExactFastestCraneRow.laidByTextAt .later Tryz.pinned [.data, .sentinel, .sentinel, .sentinel] true :=
  OpenClaim.laidByTextAt_later rfl rfl tie2 noOwnUnsafe
theorem fnExactLiftTimeUpto_row_tie : Rows.fnExactLiftTimeUptoRow.laidByTextAt .later Tryz.pinned [.data] true :=
  OpenClaim.laidByTextAt_later rfl rfl tie noOwnUnsafe
theorem fnExactJobTimeUpto_row_tie : Rows.fnExactJobTimeUptoRow.laidByTextAt .later Tryz.pinned [.data] true :=
  OpenClaim.laidByTextAt_later rfl rfl tie noOwnUnsafe
theorem fnExactTimeTableUpto_row_tie : Rows.fnExactTimeTableUptoRow.laidByTextAt .later Tryz.pinned [.data, .sentinel, .sentinel, .sentinel] true :=
  OpenClaim.laidByTextAt_later rfl rfl tie2 noOwnUnsafe
theorem fnExactFastestCraneUpto_row_tie : Rows.fnExactFastestCraneUptoRow.laidByTextAt .later Tryz.pinned [.data, .sentinel, .sentinel, .sentinel] true :=
  OpenClaim.laidByTextAt_later rfl rfl tie2 noOwnUnsafe
end Go.Proofs.YtnflaeimiegepacGreatDoor
