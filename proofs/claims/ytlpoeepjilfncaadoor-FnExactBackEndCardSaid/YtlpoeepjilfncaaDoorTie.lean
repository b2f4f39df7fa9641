/-
  DERIVED. GIVEN WITH THE SEED: THE PROGRAM's TIES (one call each: nine closed facts by the kernel) AND EACH ROW's TIE, after the 31st guide's Derived/Test/Toyas{Tie, Card}.lean. No idea stands in it: it is a product of the set-up. Laid BY PROGRAM, IN A SANDBOX (cutbox-door.mjs). By AI agents, Wed Nov 11 2026. No macro, syntax, notation, axiom, sorry.
-/
import Derived.Test.YtlpoeepjilfncaaDoorRows
import Derived.LaidByTextLater
import Derived.SevenTiedAt
import Derived.LaidSub
import Derived.LaidOnce
namespace Go.Proofs.YtlpoeepjilfncaaDoor
open Go
set_option maxRecDepth 100000
theorem seatTie1 : Tryd.prog.laidByTextLater [("loop.example/g00932/impl.firstVectors", Rows.laid_loop_example_g00932_impl_firstVectors), ("loop.example/g00932/impl.errNameTaken", Rows.laid_loop_example_g00932_impl_errNameTaken), ("loop.example/g00932/impl.errSiteFull", Rows.laid_loop_example_g00932_impl_errSiteFull), ("loop.example/g00932/impl.errTooNear", Rows.laid_loop_example_g00932_impl_errTooNear)] [.data, .sentinel, .sentinel, .sentinel] true :=
  Program.laidByTextLater_by_one 77 8 13 (by kernel_rfl) (by kernel_rfl) (by kernel_rfl) (by kernel_rfl) (by kernel_rfl) (by kernel_rfl) (fun _ _ => by kernel_rfl)
theorem noOwnUnsafe : Tryd.pinned.checked.prog.headLifts.contains "ownunsafe" = false := by kernel_rfl
theorem tie : Tryd.prog.laidByTextLater [("loop.example/g00932/impl.errNameTaken", Rows.laid_loop_example_g00932_impl_errNameTaken), ("loop.example/g00932/impl.errSiteFull", Rows.laid_loop_example_g00932_impl_errSiteFull), ("loop.example/g00932/impl.errTooNear", Rows.laid_loop_example_g00932_impl_errTooNear)] [.sentinel, .sentinel, .sentinel] true :=
  Program.laidByTextLater.sub seatTie1 ["loop.example/g00932/impl.errNameTaken", "loop.example/g00932/impl.errSiteFull", "loop.example/g00932/impl.errTooNear"] (by kernel_rfl) (by kernel_rfl)
theorem fnSites_row_tie : Rows.fnSitesRow.laidByTextAt .later Tryd.pinned [.sentinel, .sentinel, .sentinel] true :=
  OpenClaim.laidByTextAt_later rfl rfl tie noOwnUnsafe
theorem fnExactValidSite_row_tie : Rows.fnExactValidSiteRow.laidByTextAt .later Tryd.pinned [.sentinel, .sentinel, .sentinel] true :=
  OpenClaim.laidByTextAt_later rfl rfl tie noOwnUnsafe
theorem fnExactAddCrane_row_tie : Rows.fnExactAddCraneRow.laidByTextAt .later Tryd.pinned [.sentinel, .sentinel, .sentinel] true :=
  OpenClaim.laidByTextAt_later rfl rfl tie noOwnUnsafe
theorem fnExactRemoveCrane_row_tie : Rows.fnExactRemoveCraneRow.laidByTextAt .later Tryd.pinned [.sentinel, .sentinel, .sentinel] true :=
  OpenClaim.laidByTextAt_later rfl rfl tie noOwnUnsafe
theorem fnExactCraneNamed_row_tie : Rows.fnExactCraneNamedRow.laidByTextAt .later Tryd.pinned [.sentinel, .sentinel, .sentinel] true :=
  OpenClaim.laidByTextAt_later rfl rfl tie noOwnUnsafe
theorem fnExactNeighboursOf_row_tie : Rows.fnExactNeighboursOfRow.laidByTextAt .later Tryd.pinned [.sentinel, .sentinel, .sentinel] true :=
  OpenClaim.laidByTextAt_later rfl rfl tie noOwnUnsafe
theorem tie2 : Tryd.prog.laidByTextLater [("loop.example/g00932/impl.firstVectors", Rows.laid_loop_example_g00932_impl_firstVectors)] [.data] true :=
  Program.laidByTextLater.sub seatTie1 ["loop.example/g00932/impl.firstVectors"] (by kernel_rfl) (by kernel_rfl)
theorem fnExactJibEnd_row_tie : Rows.fnExactJibEndRow.laidByTextAt .later Tryd.pinned [.data] true :=
  OpenClaim.laidByTextAt_later rfl rfl tie2 noOwnUnsafe
theorem fnExactBackEnd_row_tie : Rows.fnExactBackEndRow.laidByTextAt .later Tryd.pinned [.data] true :=
  OpenClaim.laidByTextAt_later rfl rfl tie2 noOwnUnsafe
theorem fnSitesUpto_row_tie : Rows.fnSitesUptoRow.laidByTextAt .later Tryd.pinned [.sentinel, .sentinel, .sentinel] true :=
  OpenClaim.laidByTextAt_later rfl rfl tie noOwnUnsafe
theorem fnExactValidSiteUpto_row_tie : Rows.fnExactValidSiteUptoRow.laidByTextAt .later Tryd.pinned [.sentinel, .sentinel, .sentinel] true :=
  OpenClaim.laidByTextAt_later rfl rfl tie noOwnUnsafe
theorem fnExactAddCraneUpto_row_tie : Rows.fnExactAddCraneUptoRow.laidByTextAt .later Tryd.pinned [.sentinel, .sentinel, .sentinel] true :=
  OpenClaim.laidByTextAt_later rfl rfl tie noOwnUnsafe
theorem fnExactRemoveCraneUpto_row_tie : Rows.fnExactRemoveCraneUptoRow.laidByTextAt .later Tryd.pinned [.sentinel, .sentinel, .sentinel] true :=
  OpenClaim.laidByTextAt_later rfl rfl tie noOwnUnsafe
theorem fnExactCraneNamedUpto_row_tie : Rows.fnExactCraneNamedUptoRow.laidByTextAt .later Tryd.pinned [.sentinel, .sentinel, .sentinel] true :=
  OpenClaim.laidByTextAt_later rfl rfl tie noOwnUnsafe
theorem fnExactJibEndUpto_row_tie : Rows.fnExactJibEndUptoRow.laidByTextAt .later Tryd.pinned [.data] true :=
  OpenClaim.laidByTextAt_later rfl rfl tie2 noOwnUnsafe
theorem fnExactBackEndUpto_row_tie : Rows.fnExactBackEndUptoRow.laidByTextAt .later Tryd.pinned [.data] true :=
  OpenClaim.laidByTextAt_later rfl rfl tie2 noOwnUnsafe
theorem fnExactNeighboursOfUpto_row_tie : Rows.fnExactNeighboursOfUptoRow.laidByTextAt .later Tryd.pinned [.sentinel, .sentinel, .sentinel] true :=
  OpenClaim.laidByTextAt_later rfl rfl tie noOwnUnsafe
end Go.Proofs.YtlpoeepjilfncaaDoor
