/-
  NARROWER THAN 'FOR EVERY INPUT', by the rows' own cells (each row's printed sentence says how): FnExactLiftTime: laid · FnExactJobTime: laid · FnExactTimeTable: ifaces, laid · FnExactFastestCrane: ifaces, laid.
  DERIVED. THE GIVEN ROWS OF THIS SEAT. 4 by the template 'for every input the law returns true; each argument reads behind the call as it read before'; 0 by the template 'total and deterministic' (their statements: YtnflaeimiegepacGreatDoorTotals.lean).
  GIVEN WITH THE SEED: the statements are not yours to turn. If you find one false, say at which input.
  Laid BY PROGRAM, IN A SANDBOX (cutbox-rows.mjs): the forced cells as the released guide's own fill.sh prints them over the translation 497e8b5ebb52b3fd… (all of the seat's roots in one cut). By AI agents, Wed Nov 11 2026. No macro, syntax, notation, axiom, sorry.
-/
import Derived.Test.YtnflaeimiegepacGreatDoorChecked
import GoSem.Claim
import GoSem.ClaimJoined
import GoSem.ClaimMapViews
import Derived.JoinedTies
import Derived.KernelRfl
namespace Go.Proofs.YtnflaeimiegepacGreatDoor
/- THE CELL 'sum', in the pinned program and in every row, IS THE sha256 OF THE DUMP (.gsa) THAT YtnflaeimiegepacGreatDoorProg.lean LOADS. Nothing in Lean hashes anything: it is a label: what it is worth is what the hold of that sum in a sandbox is worth. -/
noncomputable def Tryz.pinned : Pinned := { name := "ytnflaeimiegepacgreatdoor", sum := "497e8b5ebb52b3fd98a3211ceabafee94c5d2399f55bac37d428faf3effbf1e4", checked := Tryz.checked }
namespace Rows
def none {H : Type} : Left H := { results := [], args := [] }

/- WHAT THE LISTED PACKAGE-LEVEL VARIABLES READ AS WHEN THE CALL BEGINS. Each datum BY PROGRAM (the guide's laid-datum.mjs) off the statement by which the dump's own 'gosem.cut.vars' lays the variable. In a bare row this is a premise. The card (YtnflaeimiegepacGreatDoorCards.lean) ties it to the program's text. -/
def laid_loop_example_g00932_impl_firstVectors {H : Type} : DataW H := .agg [.agg [.lit (.int .i64 1000), .lit (.int .i64 0)], .agg [.lit (.int .i64 966), .lit (.int .i64 259)], .agg [.lit (.int .i64 866), .lit (.int .i64 500)], .agg [.lit (.int .i64 707), .lit (.int .i64 707)], .agg [.lit (.int .i64 500), .lit (.int .i64 866)], .agg [.lit (.int .i64 259), .lit (.int .i64 966)]]
def laid_loop_example_g00932_impl_errNameTaken {H : Type} : DataW H := .iface "*errors.errorString" (.ptr (.agg [.lit (.string [97, 110, 111, 116, 104, 101, 114, 32, 99, 114, 97, 110, 101, 32, 104, 97, 115, 32, 116, 104, 101, 32, 110, 97, 109, 101])]))
def laid_loop_example_g00932_impl_errSiteFull {H : Type} : DataW H := .iface "*errors.errorString" (.ptr (.agg [.lit (.string [116, 104, 101, 114, 101, 32, 105, 115, 32, 110, 111, 32, 114, 111, 111, 109, 32, 102, 111, 114, 32, 111, 110, 101, 32, 109, 111, 114, 101, 32, 99, 114, 97, 110, 101])]))
def laid_loop_example_g00932_impl_errTooNear {H : Type} : DataW H := .iface "*errors.errorString" (.ptr (.agg [.lit (.string [97, 110, 111, 116, 104, 101, 114, 32, 99, 114, 97, 110, 101, 32, 115, 116, 97, 110, 100, 115, 32, 116, 111, 111, 32, 110, 101, 97, 114])]))

/-- 'laws.FnExactLiftTime': WHATEVER THE INPUT: true; the input reads as it did. -/
def fnExactLiftTimeSpec : ChangeSpec := { name := "fnExactLiftTime", vars := ["loop.example/g00932/impl.firstVectors"], fn := fun _ => fun
  | [d1, d2, d3, g1] => { results := [.lit (.bool true)], args := [d1, d2, d3], vars := [g1] }
  | _ => none }
def fnExactLiftTimeRow : OpenClaim := { program := "ytnflaeimiegepacgreatdoor", sum := "497e8b5ebb52b3fd98a3211ceabafee94c5d2399f55bac37d428faf3effbf1e4", func := "loop.example/g00932/laws.FnExactLiftTime", spec := "fnExactLiftTime", unfollowed := true, recurses := true, named := ["loop.example/g00932/impl.firstVectors"], apart := false, laid := [("loop.example/g00932/impl.firstVectors", laid_loop_example_g00932_impl_firstVectors)] }
def FnExactLiftTimeSaid : Prop := fnExactLiftTimeRow.holds Tryz.pinned (OpenSpec.ofChange fnExactLiftTimeSpec)

/-- ITS FALSE NEIGHBOUR: 'it returns false'. Refute it at one input. -/
def fnExactLiftTimeWrong : ChangeSpec := { name := "fnExactLiftTime", vars := ["loop.example/g00932/impl.firstVectors"], fn := fun _ => fun
  | [d1, d2, d3, g1] => { results := [.lit (.bool false)], args := [d1, d2, d3], vars := [g1] }
  | _ => none }
def FnExactLiftTimeWrongFalsely : Prop := fnExactLiftTimeRow.holds Tryz.pinned (OpenSpec.ofChange fnExactLiftTimeWrong)

/-- 'laws.FnExactJobTime': WHATEVER THE INPUT: true; the input reads as it did. -/
def fnExactJobTimeSpec : ChangeSpec := { name := "fnExactJobTime", vars := ["loop.example/g00932/impl.firstVectors"], fn := fun _ => fun
  | [d1, d2, d3, d4, g1] => { results := [.lit (.bool true)], args := [d1, d2, d3, d4], vars := [g1] }
  | _ => none }
def fnExactJobTimeRow : OpenClaim := { program := "ytnflaeimiegepacgreatdoor", sum := "497e8b5ebb52b3fd98a3211ceabafee94c5d2399f55bac37d428faf3effbf1e4", func := "loop.example/g00932/laws.FnExactJobTime", spec := "fnExactJobTime", unfollowed := true, recurses := true, named := ["loop.example/g00932/impl.firstVectors"], apart := false, laid := [("loop.example/g00932/impl.firstVectors", laid_loop_example_g00932_impl_firstVectors)] }
def FnExactJobTimeSaid : Prop := fnExactJobTimeRow.holds Tryz.pinned (OpenSpec.ofChange fnExactJobTimeSpec)

/-- ITS FALSE NEIGHBOUR: 'it returns false'. Refute it at one input. -/
def fnExactJobTimeWrong : ChangeSpec := { name := "fnExactJobTime", vars := ["loop.example/g00932/impl.firstVectors"], fn := fun _ => fun
  | [d1, d2, d3, d4, g1] => { results := [.lit (.bool false)], args := [d1, d2, d3, d4], vars := [g1] }
  | _ => none }
def FnExactJobTimeWrongFalsely : Prop := fnExactJobTimeRow.holds Tryz.pinned (OpenSpec.ofChange fnExactJobTimeWrong)

/-- 'laws.FnExactTimeTable': WHATEVER THE INPUT: true; the input reads as it did. -/
def fnExactTimeTableSpec : ChangeSpec := { name := "fnExactTimeTable", vars := ["loop.example/g00932/impl.errNameTaken", "loop.example/g00932/impl.errSiteFull", "loop.example/g00932/impl.errTooNear", "loop.example/g00932/impl.firstVectors"], fn := fun _ => fun
  | [d1, d2, d3, g1, g2, g3, g4] => { results := [.lit (.bool true)], args := [d1, d2, d3], vars := [g1, g2, g3, g4] }
  | _ => none }
def fnExactTimeTableRow : OpenClaim := { program := "ytnflaeimiegepacgreatdoor", sum := "497e8b5ebb52b3fd98a3211ceabafee94c5d2399f55bac37d428faf3effbf1e4", func := "loop.example/g00932/laws.FnExactTimeTable", spec := "fnExactTimeTable", unfollowed := true, recurses := true, named := ["loop.example/g00932/impl.errNameTaken", "loop.example/g00932/impl.errSiteFull", "loop.example/g00932/impl.errTooNear", "loop.example/g00932/impl.firstVectors"], ifaces := true, apart := false, laid := [("loop.example/g00932/impl.firstVectors", laid_loop_example_g00932_impl_firstVectors), ("loop.example/g00932/impl.errNameTaken", laid_loop_example_g00932_impl_errNameTaken), ("loop.example/g00932/impl.errSiteFull", laid_loop_example_g00932_impl_errSiteFull), ("loop.example/g00932/impl.errTooNear", laid_loop_example_g00932_impl_errTooNear)] }
def FnExactTimeTableSaid : Prop := fnExactTimeTableRow.holds Tryz.pinned (OpenSpec.ofChange fnExactTimeTableSpec)

/-- ITS FALSE NEIGHBOUR: 'it returns false'. Refute it at one input. -/
def fnExactTimeTableWrong : ChangeSpec := { name := "fnExactTimeTable", vars := ["loop.example/g00932/impl.errNameTaken", "loop.example/g00932/impl.errSiteFull", "loop.example/g00932/impl.errTooNear", "loop.example/g00932/impl.firstVectors"], fn := fun _ => fun
  | [d1, d2, d3, g1, g2, g3, g4] => { results := [.lit (.bool false)], args := [d1, d2, d3], vars := [g1, g2, g3, g4] }
  | _ => none }
def FnExactTimeTableWrongFalsely : Prop := fnExactTimeTableRow.holds Tryz.pinned (OpenSpec.ofChange fnExactTimeTableWrong)

/-- 'laws.FnExactFastestCrane': WHATEVER THE INPUT: true; the input reads as it did. -/
def fnExactFastestCraneSpec : ChangeSpec := { name := "fnExactFastestCrane", vars := ["loop.example/g00932/impl.errNameTaken", "loop.example/g00932/impl.errSiteFull", "loop.example/g00932/impl.errTooNear", "loop.example/g00932/impl.firstVectors"], fn := fun _ => fun
  | [d1, d2, d3, g1, g2, g3, g4] => { results := [.lit (.bool true)], args := [d1, d2, d3], vars := [g1, g2, g3, g4] }
  | _ => none }
def fnExactFastestCraneRow : OpenClaim := { program := "ytnflaeimiegepacgreatdoor", sum := "497e8b5ebb52b3fd98a3211ceabafee94c5d2399f55bac37d428faf3effbf1e4", func := "loop.example/g00932/laws.FnExactFastestCrane", spec := "fnExactFastestCrane", unfollowed := true, recurses := true, named := ["loop.example/g00932/impl.errNameTaken", "loop.example/g00932/impl.errSiteFull", "loop.example/g00932/impl.errTooNear", "loop.example/g00932/impl.firstVectors"], ifaces := true, apart := false, laid := [("loop.example/g00932/impl.firstVectors", laid_loop_example_g00932_impl_firstVectors), ("loop.example/g00932/impl.errNameTaken", laid_loop_example_g00932_impl_errNameTaken), ("loop.example/g00932/impl.errSiteFull", laid_loop_example_g00932_impl_errSiteFull), ("loop.example/g00932/impl.errTooNear", laid_loop_example_g00932_impl_errTooNear)] }
def FnExactFastestCraneSaid : Prop := fnExactFastestCraneRow.holds Tryz.pinned (OpenSpec.ofChange fnExactFastestCraneSpec)

/-- ITS FALSE NEIGHBOUR: 'it returns false'. Refute it at one input. -/
def fnExactFastestCraneWrong : ChangeSpec := { name := "fnExactFastestCrane", vars := ["loop.example/g00932/impl.errNameTaken", "loop.example/g00932/impl.errSiteFull", "loop.example/g00932/impl.errTooNear", "loop.example/g00932/impl.firstVectors"], fn := fun _ => fun
  | [d1, d2, d3, g1, g2, g3, g4] => { results := [.lit (.bool false)], args := [d1, d2, d3], vars := [g1, g2, g3, g4] }
  | _ => none }
def FnExactFastestCraneWrongFalsely : Prop := fnExactFastestCraneRow.holds Tryz.pinned (OpenSpec.ofChange fnExactFastestCraneWrong)

/- THE SECOND FORM. 'bulk': how many values and letters a reading holds, each counted each time it is reached (what is shared counts as often as it is met; a slice's spare places count too). A statement '..UptoSaid' is the law's where the arguments, and the package variables that the reading takes, are together of bulk at most 1048576: NARROWER than '..Said'. Prove '..Said' where nothing that the law and all that it calls make is longer than what came in: it says more and counts as full. Else prove '..UptoSaid'. A law counts once. -/
mutual
def uptoBulk {H : Type} : DataW H → Nat
  | .lit (.string bytes) => bytes.length + 1
  | .lit _ => 1
  | .nil => 1
  | .ptr d => uptoBulk d + 1
  | .slice elems spare => uptoBulkAll elems + uptoBulkAll spare + 1
  | .agg parts => uptoBulkAll parts + 1
  | .iface _ d => uptoBulk d + 1
  | .map entries => uptoBulkEntries entries + 1
  | .held _ => 1
def uptoBulkAll {H : Type} : List (DataW H) → Nat
  | [] => 0
  | d :: r => uptoBulk d + uptoBulkAll r
def uptoBulkEntries {H : Type} : List (Lit × DataW H) → Nat
  | [] => 0
  | x :: r => uptoBulkEntry x + uptoBulkEntries r
def uptoBulkEntry {H : Type} : Lit × DataW H → Nat
  | (.string bytes, d) => bytes.length + uptoBulk d + 1
  | (_, d) => uptoBulk d + 1
 end
def uptoSmall : (H : Type) → List (DataW H) → Bool := fun _ ds => decide (uptoBulkAll ds ≤ 1048576)
def OpenSpec.upto (s : _root_.Go.ChangeSpec) : _root_.Go.OpenSpec := { _root_.Go.OpenSpec.ofChange s with cond := some uptoSmall }

/-- 'laws.FnExactLiftTime', WHERE WHAT IT READS IS OF BULK AT MOST 1048576: true; the input reads as it did. -/
def fnExactLiftTimeUptoRow : OpenClaim := { program := "ytnflaeimiegepacgreatdoor", sum := "497e8b5ebb52b3fd98a3211ceabafee94c5d2399f55bac37d428faf3effbf1e4", func := "loop.example/g00932/laws.FnExactLiftTime", spec := "fnExactLiftTime", unfollowed := true, recurses := true, named := ["loop.example/g00932/impl.firstVectors"], apart := false, laid := [("loop.example/g00932/impl.firstVectors", laid_loop_example_g00932_impl_firstVectors)], narrowed := true }
def FnExactLiftTimeUptoSaid : Prop := fnExactLiftTimeUptoRow.holds Tryz.pinned (OpenSpec.upto fnExactLiftTimeSpec)

/-- 'laws.FnExactJobTime', WHERE WHAT IT READS IS OF BULK AT MOST 1048576: true; the input reads as it did. -/
def fnExactJobTimeUptoRow : OpenClaim := { program := "ytnflaeimiegepacgreatdoor", sum := "497e8b5ebb52b3fd98a3211ceabafee94c5d2399f55bac37d428faf3effbf1e4", func := "loop.example/g00932/laws.FnExactJobTime", spec := "fnExactJobTime", unfollowed := true, recurses := true, named := ["loop.example/g00932/impl.firstVectors"], apart := false, laid := [("loop.example/g00932/impl.firstVectors", laid_loop_example_g00932_impl_firstVectors)], narrowed := true }
def FnExactJobTimeUptoSaid : Prop := fnExactJobTimeUptoRow.holds Tryz.pinned (OpenSpec.upto fnExactJobTimeSpec)

/-- 'laws.FnExactTimeTable', WHERE WHAT IT READS IS OF BULK AT MOST 1048576: true; the input reads as it did. -/
def fnExactTimeTableUptoRow : OpenClaim := { program := "ytnflaeimiegepacgreatdoor", sum := "497e8b5ebb52b3fd98a3211ceabafee94c5d2399f55bac37d428faf3effbf1e4", func := "loop.example/g00932/laws.FnExactTimeTable", spec := "fnExactTimeTable", unfollowed := true, recurses := true, named := ["loop.example/g00932/impl.errNameTaken", "loop.example/g00932/impl.errSiteFull", "loop.example/g00932/impl.errTooNear", "loop.example/g00932/impl.firstVectors"], ifaces := true, apart := false, laid := [("loop.example/g00932/impl.firstVectors", laid_loop_example_g00932_impl_firstVectors), ("loop.example/g00932/impl.errNameTaken", laid_loop_example_g00932_impl_errNameTaken), ("loop.example/g00932/impl.errSiteFull", laid_loop_example_g00932_impl_errSiteFull), ("loop.example/g00932/impl.errTooNear", laid_loop_example_g00932_impl_errTooNear)], narrowed := true }
def FnExactTimeTableUptoSaid : Prop := fnExactTimeTableUptoRow.holds Tryz.pinned (OpenSpec.upto fnExactTimeTableSpec)

/-- 'laws.FnExactFastestCrane', WHERE WHAT IT READS IS OF BULK AT MOST 1048576: true; the input reads as it did. -/
def fnExactFastestCraneUptoRow : OpenClaim := { program := "ytnflaeimiegepacgreatdoor", sum := "497e8b5ebb52b3fd98a3211ceabafee94c5d2399f55bac37d428faf3effbf1e4", func := "loop.example/g00932/laws.FnExactFastestCrane", spec := "fnExactFastestCrane", unfollowed := true, recurses := true, named := ["loop.example/g00932/impl.errNameTaken", "loop.example/g00932/impl.errSiteFull", "loop.example/g00932/impl.errTooNear", "loop.example/g00932/impl.firstVectors"], ifaces := true, apart := false, laid := [("loop.example/g00932/impl.firstVectors", laid_loop_example_g00932_impl_firstVectors), ("loop.example/g00932/impl.errNameTaken", laid_loop_example_g00932_impl_errNameTaken), ("loop.example/g00932/impl.errSiteFull", laid_loop_example_g00932_impl_errSiteFull), ("loop.example/g00932/impl.errTooNear", laid_loop_example_g00932_impl_errTooNear)], narrowed := true }
def FnExactFastestCraneUptoSaid : Prop := fnExactFastestCraneUptoRow.holds Tryz.pinned (OpenSpec.upto fnExactFastestCraneSpec)

end Rows
end Go.Proofs.YtnflaeimiegepacGreatDoor
