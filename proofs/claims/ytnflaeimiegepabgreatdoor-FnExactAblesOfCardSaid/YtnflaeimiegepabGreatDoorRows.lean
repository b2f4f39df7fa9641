/-
  NARROWER THAN 'FOR EVERY INPUT', by the rows' own cells (each row's printed sentence says how): FnExactAblesOf: ifaces, laid · FnExactAbilityTable: ifaces, laid · FnExactImpossibleLifts: ifaces, laid.
  DERIVED. THE GIVEN ROWS OF THIS SEAT. 3 by the template 'for every input the law returns true; each argument reads behind the call as it read before'; 0 by the template 'total and deterministic' (their statements: YtnflaeimiegepabGreatDoorTotals.lean).
  GIVEN WITH THE SEED: the statements are not yours to turn. If you find one false, say at which input.
  Laid BY PROGRAM, IN A SANDBOX (cutbox-rows.mjs): the forced cells as the released guide's own fill.sh prints them over the translation 1701393fda087b8b… (all of the seat's roots in one cut). By AI agents, Wed Nov 11 2026. No macro, syntax, notation, axiom, sorry.
-/
import Derived.Test.YtnflaeimiegepabGreatDoorChecked
import GoSem.Claim
import GoSem.ClaimJoined
import GoSem.ClaimMapViews
import Derived.JoinedTies
import Derived.KernelRfl
namespace Go.Proofs.YtnflaeimiegepabGreatDoor
/- THE CELL 'sum', in the pinned program and in every row, IS THE sha256 OF THE DUMP (.gsa) THAT YtnflaeimiegepabGreatDoorProg.lean LOADS. Nothing in Lean hashes anything: it is a label: what it is worth is what the hold of that sum in a sandbox is worth. -/
noncomputable def Tryz.pinned : Pinned := { name := "ytnflaeimiegepabgreatdoor", sum := "1701393fda087b8bdd466f195ac7150df1fd54a7ef5365c3f65e002e2a91dcb8", checked := Tryz.checked }
namespace Rows
def none {H : Type} : Left H := { results := [], args := [] }

/- WHAT THE LISTED PACKAGE-LEVEL VARIABLES READ AS WHEN THE CALL BEGINS. Each datum BY PROGRAM (the guide's laid-datum.mjs) off the statement by which the dump's own 'gosem.cut.vars' lays the variable. In a bare row this is a premise. The card (YtnflaeimiegepabGreatDoorCards.lean) ties it to the program's text. -/
def laid_loop_example_g00932_impl_errNameTaken {H : Type} : DataW H := .iface "*errors.errorString" (.ptr (.agg [.lit (.string [97, 110, 111, 116, 104, 101, 114, 32, 99, 114, 97, 110, 101, 32, 104, 97, 115, 32, 116, 104, 101, 32, 110, 97, 109, 101])]))
def laid_loop_example_g00932_impl_errSiteFull {H : Type} : DataW H := .iface "*errors.errorString" (.ptr (.agg [.lit (.string [116, 104, 101, 114, 101, 32, 105, 115, 32, 110, 111, 32, 114, 111, 111, 109, 32, 102, 111, 114, 32, 111, 110, 101, 32, 109, 111, 114, 101, 32, 99, 114, 97, 110, 101])]))
def laid_loop_example_g00932_impl_errTooNear {H : Type} : DataW H := .iface "*errors.errorString" (.ptr (.agg [.lit (.string [97, 110, 111, 116, 104, 101, 114, 32, 99, 114, 97, 110, 101, 32, 115, 116, 97, 110, 100, 115, 32, 116, 111, 111, 32, 110, 101, 97, 114])]))

/-- 'laws.FnExactAblesOf': WHATEVER THE INPUT: true; the input reads as it did. -/
def fnExactAblesOfSpec : ChangeSpec := { name := "fnExactAblesOf", vars := ["loop.example/g00932/impl.errNameTaken", "loop.example/g00932/impl.errSiteFull", "loop.example/g00932/impl.errTooNear"], fn := fun _ => fun
  | [d1, d2, g1, g2, g3] => { results := [.lit (.bool true)], args := [d1, d2], vars := [g1, g2, g3] }
  | _ => none }
def fnExactAblesOfRow : OpenClaim := { program := "ytnflaeimiegepabgreatdoor", sum := "1701393fda087b8bdd466f195ac7150df1fd54a7ef5365c3f65e002e2a91dcb8", func := "loop.example/g00932/laws.FnExactAblesOf", spec := "fnExactAblesOf", unfollowed := true, recurses := true, named := ["loop.example/g00932/impl.errNameTaken", "loop.example/g00932/impl.errSiteFull", "loop.example/g00932/impl.errTooNear"], ifaces := true, apart := false, laid := [("loop.example/g00932/impl.errNameTaken", laid_loop_example_g00932_impl_errNameTaken), ("loop.example/g00932/impl.errSiteFull", laid_loop_example_g00932_impl_errSiteFull), ("loop.example/g00932/impl.errTooNear", laid_loop_example_g00932_impl_errTooNear)] }
def FnExactAblesOfSaid : Prop := fnExactAblesOfRow.holds Tryz.pinned (OpenSpec.ofChange fnExactAblesOfSpec)

/-- ITS FALSE NEIGHBOUR: 'it returns false'. Refute it at one input. -/
def fnExactAblesOfWrong : ChangeSpec := { name := "fnExactAblesOf", vars := ["loop.example/g00932/impl.errNameTaken", "loop.example/g00932/impl.errSiteFull", "loop.example/g00932/impl.errTooNear"], fn := fun _ => fun
  | [d1, d2, g1, g2, g3] => { results := [.lit (.bool false)], args := [d1, d2], vars := [g1, g2, g3] }
  | _ => none }
def FnExactAblesOfWrongFalsely : Prop := fnExactAblesOfRow.holds Tryz.pinned (OpenSpec.ofChange fnExactAblesOfWrong)

/-- 'laws.FnExactAbilityTable': WHATEVER THE INPUT: true; the input reads as it did. -/
def fnExactAbilityTableSpec : ChangeSpec := { name := "fnExactAbilityTable", vars := ["loop.example/g00932/impl.errNameTaken", "loop.example/g00932/impl.errSiteFull", "loop.example/g00932/impl.errTooNear"], fn := fun _ => fun
  | [d1, d2, g1, g2, g3] => { results := [.lit (.bool true)], args := [d1, d2], vars := [g1, g2, g3] }
  | _ => none }
def fnExactAbilityTableRow : OpenClaim := { program := "ytnflaeimiegepabgreatdoor", sum := "1701393fda087b8bdd466f195ac7150df1fd54a7ef5365c3f65e002e2a91dcb8", func := "loop.example/g00932/laws.FnExactAbilityTable", spec := "fnExactAbilityTable", unfollowed := true, recurses := true, named := ["loop.example/g00932/impl.errNameTaken", "loop.example/g00932/impl.errSiteFull", "loop.example/g00932/impl.errTooNear"], ifaces := true, apart := false, laid := [("loop.example/g00932/impl.errNameTaken", laid_loop_example_g00932_impl_errNameTaken), ("loop.example/g00932/impl.errSiteFull", laid_loop_example_g00932_impl_errSiteFull), ("loop.example/g00932/impl.errTooNear", laid_loop_example_g00932_impl_errTooNear)] }
def FnExactAbilityTableSaid : Prop := fnExactAbilityTableRow.holds Tryz.pinned (OpenSpec.ofChange fnExactAbilityTableSpec)

/-- ITS FALSE NEIGHBOUR: 'it returns false'. Refute it at one input. -/
def fnExactAbilityTableWrong : ChangeSpec := { name := "fnExactAbilityTable", vars := ["loop.example/g00932/impl.errNameTaken", "loop.example/g00932/impl.errSiteFull", "loop.example/g00932/impl.errTooNear"], fn := fun _ => fun
  | [d1, d2, g1, g2, g3] => { results := [.lit (.bool false)], args := [d1, d2], vars := [g1, g2, g3] }
  | _ => none }
def FnExactAbilityTableWrongFalsely : Prop := fnExactAbilityTableRow.holds Tryz.pinned (OpenSpec.ofChange fnExactAbilityTableWrong)

/-- 'laws.FnExactImpossibleLifts': WHATEVER THE INPUT: true; the input reads as it did. -/
def fnExactImpossibleLiftsSpec : ChangeSpec := { name := "fnExactImpossibleLifts", vars := ["loop.example/g00932/impl.errNameTaken", "loop.example/g00932/impl.errSiteFull", "loop.example/g00932/impl.errTooNear"], fn := fun _ => fun
  | [d1, d2, g1, g2, g3] => { results := [.lit (.bool true)], args := [d1, d2], vars := [g1, g2, g3] }
  | _ => none }
def fnExactImpossibleLiftsRow : OpenClaim := { program := "ytnflaeimiegepabgreatdoor", sum := "1701393fda087b8bdd466f195ac7150df1fd54a7ef5365c3f65e002e2a91dcb8", func := "loop.example/g00932/laws.FnExactImpossibleLifts", spec := "fnExactImpossibleLifts", unfollowed := true, recurses := true, named := ["loop.example/g00932/impl.errNameTaken", "loop.example/g00932/impl.errSiteFull", "loop.example/g00932/impl.errTooNear"], ifaces := true, apart := false, laid := [("loop.example/g00932/impl.errNameTaken", laid_loop_example_g00932_impl_errNameTaken), ("loop.example/g00932/impl.errSiteFull", laid_loop_example_g00932_impl_errSiteFull), ("loop.example/g00932/impl.errTooNear", laid_loop_example_g00932_impl_errTooNear)] }
def FnExactImpossibleLiftsSaid : Prop := fnExactImpossibleLiftsRow.holds Tryz.pinned (OpenSpec.ofChange fnExactImpossibleLiftsSpec)

/-- ITS FALSE NEIGHBOUR: 'it returns false'. Refute it at one input. -/
def fnExactImpossibleLiftsWrong : ChangeSpec := { name := "fnExactImpossibleLifts", vars := ["loop.example/g00932/impl.errNameTaken", "loop.example/g00932/impl.errSiteFull", "loop.example/g00932/impl.errTooNear"], fn := fun _ => fun
  | [d1, d2, g1, g2, g3] => { results := [.lit (.bool false)], args := [d1, d2], vars := [g1, g2, g3] }
  | _ => none }
def FnExactImpossibleLiftsWrongFalsely : Prop := fnExactImpossibleLiftsRow.holds Tryz.pinned (OpenSpec.ofChange fnExactImpossibleLiftsWrong)

/- THE SECOND FORM. 'bulk': how many values and letters a reading holds, each counted each time it is reached (what is shared counts as often as it is met; a slice's spare places count too). A statement '..UptoSaid' is the law's where the arguments, and the package variables that the reading takes, are together of bulk at most 1048576: NARROWER than '..Said'. Prove '..Said' where nothing that the law and all that it calls make is longer than what came in: it says more and counts as full. Else prove '..UptoSaid'. A law counts once. -/
mutual
def uptoBulk {H : Type} : DataW H → Nat
  | .lit (.string bytes) => bytes.length + 1
  | .lit _ => 1
  | .nil => 1
  | .ptr d => uptoBulk d + 1
  | .slice elems spare => uptoBulkAll elems + uptoBulkAll spare + 1
  | .agg parts => uptoBulkAll parts + 1
  | .iface _ d => uptoBulk d + 1
  | .map entries => uptoBulkEntries entries + 1
  | .held _ => 1
def uptoBulkAll {H : Type} : List (DataW H) → Nat
  | [] => 0
  | d :: r => uptoBulk d + uptoBulkAll r
def uptoBulkEntries {H : Type} : List (Lit × DataW H) → Nat
  | [] => 0
  | x :: r => uptoBulkEntry x + uptoBulkEntries r
def uptoBulkEntry {H : Type} : Lit × DataW H → Nat
  | (.string bytes, d) => bytes.length + uptoBulk d + 1
  | (_, d) => uptoBulk d + 1
 end
def uptoSmall : (H : Type) → List (DataW H) → Bool := fun _ ds => decide (uptoBulkAll ds ≤ 1048576)
def OpenSpec.upto (s : _root_.Go.ChangeSpec) : _root_.Go.OpenSpec := { _root_.Go.OpenSpec.ofChange s with cond := some uptoSmall }

/-- 'laws.FnExactAblesOf', WHERE WHAT IT READS IS OF BULK AT MOST 1048576: true; the input reads as it did. -/
def fnExactAblesOfUptoRow : OpenClaim := { program := "ytnflaeimiegepabgreatdoor", sum := "1701393fda087b8bdd466f195ac7150df1fd54a7ef5365c3f65e002e2a91dcb8", func := "loop.example/g00932/laws.FnExactAblesOf", spec := "fnExactAblesOf", unfollowed := true, recurses := true, named := ["loop.example/g00932/impl.errNameTaken", "loop.example/g00932/impl.errSiteFull", "loop.example/g00932/impl.errTooNear"], ifaces := true, apart := false, laid := [("loop.example/g00932/impl.errNameTaken", laid_loop_example_g00932_impl_errNameTaken), ("loop.example/g00932/impl.errSiteFull", laid_loop_example_g00932_impl_errSiteFull), ("loop.example/g00932/impl.errTooNear", laid_loop_example_g00932_impl_errTooNear)], narrowed := true }
def FnExactAblesOfUptoSaid : Prop := fnExactAblesOfUptoRow.holds Tryz.pinned (OpenSpec.upto fnExactAblesOfSpec)

/-- 'laws.FnExactAbilityTable', WHERE WHAT IT READS IS OF BULK AT MOST 1048576: true; the input reads as it did. -/
def fnExactAbilityTableUptoRow : OpenClaim := { program := "ytnflaeimiegepabgreatdoor", sum := "1701393fda087b8bdd466f195ac7150df1fd54a7ef5365c3f65e002e2a91dcb8", func := "loop.example/g00932/laws.FnExactAbilityTable", spec := "fnExactAbilityTable", unfollowed := true, recurses := true, named := ["loop.example/g00932/impl.errNameTaken", "loop.example/g00932/impl.errSiteFull", "loop.example/g00932/impl.errTooNear"], ifaces := true, apart := false, laid := [("loop.example/g00932/impl.errNameTaken", laid_loop_example_g00932_impl_errNameTaken), ("loop.example/g00932/impl.errSiteFull", laid_loop_example_g00932_impl_errSiteFull), ("loop.example/g00932/impl.errTooNear", laid_loop_example_g00932_impl_errTooNear)], narrowed := true }
def FnExactAbilityTableUptoSaid : Prop := fnExactAbilityTableUptoRow.holds Tryz.pinned (OpenSpec.upto fnExactAbilityTableSpec)

/-- 'laws.FnExactImpossibleLifts', WHERE WHAT IT READS IS OF BULK AT MOST 1048576: true; the input reads as it did. -/
def fnExactImpossibleLiftsUptoRow : OpenClaim := { program := "ytnflaeimiegepabgreatdoor", sum := "1701393fda087b8bdd466f195ac7150df1fd54a7ef5365c3f65e002e2a91dcb8", func := "loop.example/g00932/laws.FnExactImpossibleLifts", spec := "fnExactImpossibleLifts", unfollowed := true, recurses := true, named := ["loop.example/g00932/impl.errNameTaken", "loop.example/g00932/impl.errSiteFull", "loop.example/g00932/impl.errTooNear"], ifaces := true, apart := false, laid := [("loop.example/g00932/impl.errNameTaken", laid_loop_example_g00932_impl_errNameTaken), ("loop.example/g00932/impl.errSiteFull", laid_loop_example_g00932_impl_errSiteFull), ("loop.example/g00932/impl.errTooNear", laid_loop_example_g00932_impl_errTooNear)], narrowed := true }
def FnExactImpossibleLiftsUptoSaid : Prop := fnExactImpossibleLiftsUptoRow.holds Tryz.pinned (OpenSpec.upto fnExactImpossibleLiftsSpec)

end Rows
end Go.Proofs.YtnflaeimiegepabGreatDoor
