/-
  NARROWER THAN 'FOR EVERY INPUT', by the rows' own cells (each row's printed sentence says how): FnSites: ifaces, laid · FnExactValidSite: ifaces, laid · FnExactAddCrane: ifaces, laid · FnExactRemoveCrane: ifaces, laid · FnExactCraneNamed: ifaces, laid · FnExactJibEnd: laid · FnExactBackEnd: laid · FnExactNeighboursOf: ifaces, laid.
  DERIVED. THE GIVEN ROWS OF THIS SEAT. 8 by the template 'for every input the law returns true; each argument reads behind the call as it read before'; 0 by the template 'total and deterministic' (their statements: YtlpoeepjilfncaaDoorTotals.lean).
  GIVEN WITH THE SEED: the statements are not yours to turn. If you find one false, say at which input.
  Laid BY PROGRAM, IN A SANDBOX (cutbox-rows.mjs): the forced cells as the released guide's own fill.sh prints them over the translation c35a317e9484143d… (all of the seat's roots in one cut). By AI agents, Wed Nov 11 2026. No macro, syntax, notation, axiom, sorry.
-/
import Derived.Test.YtlpoeepjilfncaaDoorChecked
import GoSem.Claim
import GoSem.ClaimJoined
import GoSem.ClaimMapViews
import Derived.JoinedTies
import Derived.KernelRfl
namespace Go.Proofs.YtlpoeepjilfncaaDoor
/- THE CELL 'sum', in the pinned program and in every row, IS THE sha256 OF THE DUMP (.gsa) THAT YtlpoeepjilfncaaDoorProg.lean LOADS. Nothing in Lean hashes anything: it is a label: what it is worth is what the hold of that sum in a sandbox is worth. -/
noncomputable def Tryd.pinned : Pinned := { name := "ytlpoeepjilfncaadoor", sum := "c35a317e9484143d6ddf05ffa222de47ef5aa01006a13e36b401c00d8dd71e10", checked := Tryd.checked }
namespace Rows
def none {H : Type} : Left H := { results := [], args := [] }

/- WHAT THE LISTED PACKAGE-LEVEL VARIABLES READ AS WHEN THE CALL BEGINS. Each datum BY PROGRAM (the guide's laid-datum.mjs) off the statement by which the dump's own 'gosem.cut.vars' lays the variable. In a bare row this is a premise. The card (YtlpoeepjilfncaaDoorCards.lean) ties it to the program's text. -/
def laid_loop_example_g00932_impl_errNameTaken {H : Type} : DataW H := .iface "*errors.errorString" (.ptr (.agg [.lit (.string [97, 110, 111, 116, 104, 101, 114, 32, 99, 114, 97, 110, 101, 32, 104, 97, 115, 32, 116, 104, 101, 32, 110, 97, 109, 101])]))
def laid_loop_example_g00932_impl_errSiteFull {H : Type} : DataW H := .iface "*errors.errorString" (.ptr (.agg [.lit (.string [116, 104, 101, 114, 101, 32, 105, 115, 32, 110, 111, 32, 114, 111, 111, 109, 32, 102, 111, 114, 32, 111, 110, 101, 32, 109, 111, 114, 101, 32, 99, 114, 97, 110, 101])]))
def laid_loop_example_g00932_impl_errTooNear {H : Type} : DataW H := .iface "*errors.errorString" (.ptr (.agg [.lit (.string [97, 110, 111, 116, 104, 101, 114, 32, 99, 114, 97, 110, 101, 32, 115, 116, 97, 110, 100, 115, 32, 116, 111, 111, 32, 110, 101, 97, 114])]))
def laid_loop_example_g00932_impl_firstVectors {H : Type} : DataW H := .agg [.agg [.lit (.int .i64 1000), .lit (.int .i64 0)], .agg [.lit (.int .i64 966), .lit (.int .i64 259)], .agg [.lit (.int .i64 866), .lit (.int .i64 500)], .agg [.lit (.int .i64 707), .lit (.int .i64 707)], .agg [.lit (.int .i64 500), .lit (.int .i64 866)], .agg [.lit (.int .i64 259), .lit (.int .i64 966)]]

/-- 'laws.FnSites': WHATEVER THE INPUT: true; the input reads as it did. -/
def fnSitesSpec : ChangeSpec := { name := "fnSites", vars := ["loop.example/g00932/impl.errNameTaken", "loop.example/g00932/impl.errSiteFull", "loop.example/g00932/impl.errTooNear"], fn := fun _ => fun
  | [d1, d2, g1, g2, g3] => { results := [.lit (.bool true)], args := [d1, d2], vars := [g1, g2, g3] }
  | _ => none }
def fnSitesRow : OpenClaim := { program := "ytlpoeepjilfncaadoor", sum := "c35a317e9484143d6ddf05ffa222de47ef5aa01006a13e36b401c00d8dd71e10", func := "loop.example/g00932/laws.FnSites", spec := "fnSites", inPlace := ["internal/reflectlite.TypeOf"], unfollowed := true, recurses := true, named := ["loop.example/g00932/impl.errNameTaken", "loop.example/g00932/impl.errSiteFull", "loop.example/g00932/impl.errTooNear"], ifaces := true, apart := false, laid := [("loop.example/g00932/impl.errNameTaken", laid_loop_example_g00932_impl_errNameTaken), ("loop.example/g00932/impl.errSiteFull", laid_loop_example_g00932_impl_errSiteFull), ("loop.example/g00932/impl.errTooNear", laid_loop_example_g00932_impl_errTooNear)] }
def FnSitesSaid : Prop := fnSitesRow.holds Tryd.pinned (OpenSpec.ofChange fnSitesSpec)

/-- ITS FALSE NEIGHBOUR: 'it returns false'. Refute it at one input. -/
def fnSitesWrong : ChangeSpec := { name := "fnSites", vars := ["loop.example/g00932/impl.errNameTaken", "loop.example/g00932/impl.errSiteFull", "loop.example/g00932/impl.errTooNear"], fn := fun _ => fun
  | [d1, d2, g1, g2, g3] => { results := [.lit (.bool false)], args := [d1, d2], vars := [g1, g2, g3] }
  | _ => none }
def FnSitesWrongFalsely : Prop := fnSitesRow.holds Tryd.pinned (OpenSpec.ofChange fnSitesWrong)

/-- 'laws.FnExactValidSite': WHATEVER THE INPUT: true; the input reads as it did. -/
def fnExactValidSiteSpec : ChangeSpec := { name := "fnExactValidSite", vars := ["loop.example/g00932/impl.errNameTaken", "loop.example/g00932/impl.errSiteFull", "loop.example/g00932/impl.errTooNear"], fn := fun _ => fun
  | [d, g1, g2, g3] => { results := [.lit (.bool true)], args := [d], vars := [g1, g2, g3] }
  | _ => none }
def fnExactValidSiteRow : OpenClaim := { program := "ytlpoeepjilfncaadoor", sum := "c35a317e9484143d6ddf05ffa222de47ef5aa01006a13e36b401c00d8dd71e10", func := "loop.example/g00932/laws.FnExactValidSite", spec := "fnExactValidSite", named := ["loop.example/g00932/impl.errNameTaken", "loop.example/g00932/impl.errSiteFull", "loop.example/g00932/impl.errTooNear"], ifaces := true, apart := false, laid := [("loop.example/g00932/impl.errNameTaken", laid_loop_example_g00932_impl_errNameTaken), ("loop.example/g00932/impl.errSiteFull", laid_loop_example_g00932_impl_errSiteFull), ("loop.example/g00932/impl.errTooNear", laid_loop_example_g00932_impl_errTooNear)] }
def FnExactValidSiteSaid : Prop := fnExactValidSiteRow.holds Tryd.pinned (OpenSpec.ofChange fnExactValidSiteSpec)

/-- ITS FALSE NEIGHBOUR: 'it returns false'. Refute it at one input. -/
def fnExactValidSiteWrong : ChangeSpec := { name := "fnExactValidSite", vars := ["loop.example/g00932/impl.errNameTaken", "loop.example/g00932/impl.errSiteFull", "loop.example/g00932/impl.errTooNear"], fn := fun _ => fun
  | [d, g1, g2, g3] => { results := [.lit (.bool false)], args := [d], vars := [g1, g2, g3] }
  | _ => none }
def FnExactValidSiteWrongFalsely : Prop := fnExactValidSiteRow.holds Tryd.pinned (OpenSpec.ofChange fnExactValidSiteWrong)

/-- 'laws.FnExactAddCrane': WHATEVER THE INPUT: true; the input reads as it did. -/
def fnExactAddCraneSpec : ChangeSpec := { name := "fnExactAddCrane", vars := ["loop.example/g00932/impl.errNameTaken", "loop.example/g00932/impl.errSiteFull", "loop.example/g00932/impl.errTooNear"], fn := fun _ => fun
  | [d1, d2, g1, g2, g3] => { results := [.lit (.bool true)], args := [d1, d2], vars := [g1, g2, g3] }
  | _ => none }
def fnExactAddCraneRow : OpenClaim := { program := "ytlpoeepjilfncaadoor", sum := "c35a317e9484143d6ddf05ffa222de47ef5aa01006a13e36b401c00d8dd71e10", func := "loop.example/g00932/laws.FnExactAddCrane", spec := "fnExactAddCrane", inPlace := ["internal/reflectlite.TypeOf"], unfollowed := true, recurses := true, named := ["loop.example/g00932/impl.errNameTaken", "loop.example/g00932/impl.errSiteFull", "loop.example/g00932/impl.errTooNear"], ifaces := true, apart := false, laid := [("loop.example/g00932/impl.errNameTaken", laid_loop_example_g00932_impl_errNameTaken), ("loop.example/g00932/impl.errSiteFull", laid_loop_example_g00932_impl_errSiteFull), ("loop.example/g00932/impl.errTooNear", laid_loop_example_g00932_impl_errTooNear)] }
def FnExactAddCraneSaid : Prop := fnExactAddCraneRow.holds Tryd.pinned (OpenSpec.ofChange fnExactAddCraneSpec)

/-- ITS FALSE NEIGHBOUR: 'it returns false'. Refute it at one input. -/
def fnExactAddCraneWrong : ChangeSpec := { name := "fnExactAddCrane", vars := ["loop.example/g00932/impl.errNameTaken", "loop.example/g00932/impl.errSiteFull", "loop.example/g00932/impl.errTooNear"], fn := fun _ => fun
  | [d1, d2, g1, g2, g3] => { results := [.lit (.bool false)], args := [d1, d2], vars := [g1, g2, g3] }
  | _ => none }
def FnExactAddCraneWrongFalsely : Prop := fnExactAddCraneRow.holds Tryd.pinned (OpenSpec.ofChange fnExactAddCraneWrong)

/-- 'laws.FnExactRemoveCrane': WHATEVER THE INPUT: true; the input reads as it did. -/
def fnExactRemoveCraneSpec : ChangeSpec := { name := "fnExactRemoveCrane", vars := ["loop.example/g00932/impl.errNameTaken", "loop.example/g00932/impl.errSiteFull", "loop.example/g00932/impl.errTooNear"], fn := fun _ => fun
  | [d1, d2, g1, g2, g3] => { results := [.lit (.bool true)], args := [d1, d2], vars := [g1, g2, g3] }
  | _ => none }
def fnExactRemoveCraneRow : OpenClaim := { program := "ytlpoeepjilfncaadoor", sum := "c35a317e9484143d6ddf05ffa222de47ef5aa01006a13e36b401c00d8dd71e10", func := "loop.example/g00932/laws.FnExactRemoveCrane", spec := "fnExactRemoveCrane", named := ["loop.example/g00932/impl.errNameTaken", "loop.example/g00932/impl.errSiteFull", "loop.example/g00932/impl.errTooNear"], ifaces := true, apart := false, laid := [("loop.example/g00932/impl.errNameTaken", laid_loop_example_g00932_impl_errNameTaken), ("loop.example/g00932/impl.errSiteFull", laid_loop_example_g00932_impl_errSiteFull), ("loop.example/g00932/impl.errTooNear", laid_loop_example_g00932_impl_errTooNear)] }
def FnExactRemoveCraneSaid : Prop := fnExactRemoveCraneRow.holds Tryd.pinned (OpenSpec.ofChange fnExactRemoveCraneSpec)

/-- ITS FALSE NEIGHBOUR: 'it returns false'. Refute it at one input. -/
def fnExactRemoveCraneWrong : ChangeSpec := { name := "fnExactRemoveCrane", vars := ["loop.example/g00932/impl.errNameTaken", "loop.example/g00932/impl.errSiteFull", "loop.example/g00932/impl.errTooNear"], fn := fun _ => fun
  | [d1, d2, g1, g2, g3] => { results := [.lit (.bool false)], args := [d1, d2], vars := [g1, g2, g3] }
  | _ => none }
def FnExactRemoveCraneWrongFalsely : Prop := fnExactRemoveCraneRow.holds Tryd.pinned (OpenSpec.ofChange fnExactRemoveCraneWrong)

/-- 'laws.FnExactCraneNamed': WHATEVER THE INPUT: true; the input reads as it did. -/
def fnExactCraneNamedSpec : ChangeSpec := { name := "fnExactCraneNamed", vars := ["loop.example/g00932/impl.errNameTaken", "loop.example/g00932/impl.errSiteFull", "loop.example/g00932/impl.errTooNear"], fn := fun _ => fun
  | [d1, d2, g1, g2, g3] => { results := [.lit (.bool true)], args := [d1, d2], vars := [g1, g2, g3] }
  | _ => none }
def fnExactCraneNamedRow : OpenClaim := { program := "ytlpoeepjilfncaadoor", sum := "c35a317e9484143d6ddf05ffa222de47ef5aa01006a13e36b401c00d8dd71e10", func := "loop.example/g00932/laws.FnExactCraneNamed", spec := "fnExactCraneNamed", named := ["loop.example/g00932/impl.errNameTaken", "loop.example/g00932/impl.errSiteFull", "loop.example/g00932/impl.errTooNear"], ifaces := true, apart := false, laid := [("loop.example/g00932/impl.errNameTaken", laid_loop_example_g00932_impl_errNameTaken), ("loop.example/g00932/impl.errSiteFull", laid_loop_example_g00932_impl_errSiteFull), ("loop.example/g00932/impl.errTooNear", laid_loop_example_g00932_impl_errTooNear)] }
def FnExactCraneNamedSaid : Prop := fnExactCraneNamedRow.holds Tryd.pinned (OpenSpec.ofChange fnExactCraneNamedSpec)

/-- ITS FALSE NEIGHBOUR: 'it returns false'. Refute it at one input. -/
def fnExactCraneNamedWrong : ChangeSpec := { name := "fnExactCraneNamed", vars := ["loop.example/g00932/impl.errNameTaken", "loop.example/g00932/impl.errSiteFull", "loop.example/g00932/impl.errTooNear"], fn := fun _ => fun
  | [d1, d2, g1, g2, g3] => { results := [.lit (.bool false)], args := [d1, d2], vars := [g1, g2, g3] }
  | _ => none }
def FnExactCraneNamedWrongFalsely : Prop := fnExactCraneNamedRow.holds Tryd.pinned (OpenSpec.ofChange fnExactCraneNamedWrong)

/-- 'laws.FnExactJibEnd': WHATEVER THE INPUT: true; the input reads as it did. -/
def fnExactJibEndSpec : ChangeSpec := { name := "fnExactJibEnd", vars := ["loop.example/g00932/impl.firstVectors"], fn := fun _ => fun
  | [d1, d2, g1] => { results := [.lit (.bool true)], args := [d1, d2], vars := [g1] }
  | _ => none }
def fnExactJibEndRow : OpenClaim := { program := "ytlpoeepjilfncaadoor", sum := "c35a317e9484143d6ddf05ffa222de47ef5aa01006a13e36b401c00d8dd71e10", func := "loop.example/g00932/laws.FnExactJibEnd", spec := "fnExactJibEnd", named := ["loop.example/g00932/impl.firstVectors"], apart := false, laid := [("loop.example/g00932/impl.firstVectors", laid_loop_example_g00932_impl_firstVectors)] }
def FnExactJibEndSaid : Prop := fnExactJibEndRow.holds Tryd.pinned (OpenSpec.ofChange fnExactJibEndSpec)

/-- ITS FALSE NEIGHBOUR: 'it returns false'. Refute it at one input. -/
def fnExactJibEndWrong : ChangeSpec := { name := "fnExactJibEnd", vars := ["loop.example/g00932/impl.firstVectors"], fn := fun _ => fun
  | [d1, d2, g1] => { results := [.lit (.bool false)], args := [d1, d2], vars := [g1] }
  | _ => none }
def FnExactJibEndWrongFalsely : Prop := fnExactJibEndRow.holds Tryd.pinned (OpenSpec.ofChange fnExactJibEndWrong)

/-- 'laws.FnExactBackEnd': WHATEVER THE INPUT: true; the input reads as it did. -/
def fnExactBackEndSpec : ChangeSpec := { name := "fnExactBackEnd", vars := ["loop.example/g00932/impl.firstVectors"], fn := fun _ => fun
  | [d1, d2, g1] => { results := [.lit (.bool true)], args := [d1, d2], vars := [g1] }
  | _ => none }
def fnExactBackEndRow : OpenClaim := { program := "ytlpoeepjilfncaadoor", sum := "c35a317e9484143d6ddf05ffa222de47ef5aa01006a13e36b401c00d8dd71e10", func := "loop.example/g00932/laws.FnExactBackEnd", spec := "fnExactBackEnd", named := ["loop.example/g00932/impl.firstVectors"], apart := false, laid := [("loop.example/g00932/impl.firstVectors", laid_loop_example_g00932_impl_firstVectors)] }
def FnExactBackEndSaid : Prop := fnExactBackEndRow.holds Tryd.pinned (OpenSpec.ofChange fnExactBackEndSpec)

/-- ITS FALSE NEIGHBOUR: 'it returns false'. Refute it at one input. -/
def fnExactBackEndWrong : ChangeSpec := { name := "fnExactBackEnd", vars := ["loop.example/g00932/impl.firstVectors"], fn := fun _ => fun
  | [d1, d2, g1] => { results := [.lit (.bool false)], args := [d1, d2], vars := [g1] }
  | _ => none }
def FnExactBackEndWrongFalsely : Prop := fnExactBackEndRow.holds Tryd.pinned (OpenSpec.ofChange fnExactBackEndWrong)

/-- 'laws.FnExactNeighboursOf': WHATEVER THE INPUT: true; the input reads as it did. -/
def fnExactNeighboursOfSpec : ChangeSpec := { name := "fnExactNeighboursOf", vars := ["loop.example/g00932/impl.errNameTaken", "loop.example/g00932/impl.errSiteFull", "loop.example/g00932/impl.errTooNear"], fn := fun _ => fun
  | [d1, d2, g1, g2, g3] => { results := [.lit (.bool true)], args := [d1, d2], vars := [g1, g2, g3] }
  | _ => none }
def fnExactNeighboursOfRow : OpenClaim := { program := "ytlpoeepjilfncaadoor", sum := "c35a317e9484143d6ddf05ffa222de47ef5aa01006a13e36b401c00d8dd71e10", func := "loop.example/g00932/laws.FnExactNeighboursOf", spec := "fnExactNeighboursOf", unfollowed := true, recurses := true, named := ["loop.example/g00932/impl.errNameTaken", "loop.example/g00932/impl.errSiteFull", "loop.example/g00932/impl.errTooNear"], ifaces := true, apart := false, laid := [("loop.example/g00932/impl.errNameTaken", laid_loop_example_g00932_impl_errNameTaken), ("loop.example/g00932/impl.errSiteFull", laid_loop_example_g00932_impl_errSiteFull), ("loop.example/g00932/impl.errTooNear", laid_loop_example_g00932_impl_errTooNear)] }
def FnExactNeighboursOfSaid : Prop := fnExactNeighboursOfRow.holds Tryd.pinned (OpenSpec.ofChange fnExactNeighboursOfSpec)

/-- ITS FALSE NEIGHBOUR: 'it returns false'. Refute it at one input. -/
def fnExactNeighboursOfWrong : ChangeSpec := { name := "fnExactNeighboursOf", vars := ["loop.example/g00932/impl.errNameTaken", "loop.example/g00932/impl.errSiteFull", "loop.example/g00932/impl.errTooNear"], fn := fun _ => fun
  | [d1, d2, g1, g2, g3] => { results := [.lit (.bool false)], args := [d1, d2], vars := [g1, g2, g3] }
  | _ => none }
def FnExactNeighboursOfWrongFalsely : Prop := fnExactNeighboursOfRow.holds Tryd.pinned (OpenSpec.ofChange fnExactNeighboursOfWrong)

/- THE SECOND FORM. 'bulk': how many values and letters a reading holds, each counted each time it is reached (what is shared counts as often as it is met; a slice's spare places count too). A statement '..UptoSaid' is the law's where the arguments, and the package variables that the reading takes, are together of bulk at most 1048576: NARROWER than '..Said'. Prove '..Said' where nothing that the law and all that it calls make is longer than what came in: it says more and counts as full. Else prove '..UptoSaid'. A law counts once. -/
mutual
def uptoBulk {H : Type} : DataW H → Nat
  | .lit (.string bytes) => bytes.length + 1
  | .lit _ => 1
  | .nil => 1
  | .ptr d => uptoBulk d + 1
  | .slice elems spare => uptoBulkAll elems + uptoBulkAll spare + 1
  | .agg parts => uptoBulkAll parts + 1
  | .iface _ d => uptoBulk d + 1
  | .map entries => uptoBulkEntries entries + 1
  | .held _ => 1
def uptoBulkAll {H : Type} : List (DataW H) → Nat
  | [] => 0
  | d :: r => uptoBulk d + uptoBulkAll r
def uptoBulkEntries {H : Type} : List (Lit × DataW H) → Nat
  | [] => 0
  | x :: r => uptoBulkEntry x + uptoBulkEntries r
def uptoBulkEntry {H : Type} : Lit × DataW H → Nat
  | (.string bytes, d) => bytes.length + uptoBulk d + 1
  | (_, d) => uptoBulk d + 1
 end
def uptoSmall : (H : Type) → List (DataW H) → Bool := fun _ ds => decide (uptoBulkAll ds ≤ 1048576)
def OpenSpec.upto (s : _root_.Go.ChangeSpec) : _root_.Go.OpenSpec := { _root_.Go.OpenSpec.ofChange s with cond := some uptoSmall }

/-- 'laws.FnSites', WHERE WHAT IT READS IS OF BULK AT MOST 1048576: true; the input reads as it did. -/
def fnSitesUptoRow : OpenClaim := { program := "ytlpoeepjilfncaadoor", sum := "c35a317e9484143d6ddf05ffa222de47ef5aa01006a13e36b401c00d8dd71e10", func := "loop.example/g00932/laws.FnSites", spec := "fnSites", inPlace := ["internal/reflectlite.TypeOf"], unfollowed := true, recurses := true, named := ["loop.example/g00932/impl.errNameTaken", "loop.example/g00932/impl.errSiteFull", "loop.example/g00932/impl.errTooNear"], ifaces := true, apart := false, laid := [("loop.example/g00932/impl.errNameTaken", laid_loop_example_g00932_impl_errNameTaken), ("loop.example/g00932/impl.errSiteFull", laid_loop_example_g00932_impl_errSiteFull), ("loop.example/g00932/impl.errTooNear", laid_loop_example_g00932_impl_errTooNear)], narrowed := true }
def FnSitesUptoSaid : Prop := fnSitesUptoRow.holds Tryd.pinned (OpenSpec.upto fnSitesSpec)

/-- 'laws.FnExactValidSite', WHERE WHAT IT READS IS OF BULK AT MOST 1048576: true; the input reads as it did. -/
def fnExactValidSiteUptoRow : OpenClaim := { program := "ytlpoeepjilfncaadoor", sum := "c35a317e9484143d6ddf05ffa222de47ef5aa01006a13e36b401c00d8dd71e10", func := "loop.example/g00932/laws.FnExactValidSite", spec := "fnExactValidSite", named := ["loop.example/g00932/impl.errNameTaken", "loop.example/g00932/impl.errSiteFull", "loop.example/g00932/impl.errTooNear"], ifaces := true, apart := false, laid := [("loop.example/g00932/impl.errNameTaken", laid_loop_example_g00932_impl_errNameTaken), ("loop.example/g00932/impl.errSiteFull", laid_loop_example_g00932_impl_errSiteFull), ("loop.example/g00932/impl.errTooNear", laid_loop_example_g00932_impl_errTooNear)], narrowed := true }
def FnExactValidSiteUptoSaid : Prop := fnExactValidSiteUptoRow.holds Tryd.pinned (OpenSpec.upto fnExactValidSiteSpec)

/-- 'laws.FnExactAddCrane', WHERE WHAT IT READS IS OF BULK AT MOST 1048576: true; the input reads as it did. -/
def fnExactAddCraneUptoRow : OpenClaim := { program := "ytlpoeepjilfncaadoor", sum := "c35a317e9484143d6ddf05ffa222de47ef5aa01006a13e36b401c00d8dd71e10", func := "loop.example/g00932/laws.FnExactAddCrane", spec := "fnExactAddCrane", inPlace := ["internal/reflectlite.TypeOf"], unfollowed := true, recurses := true, named := ["loop.example/g00932/impl.errNameTaken", "loop.example/g00932/impl.errSiteFull", "loop.example/g00932/impl.errTooNear"], ifaces := true, apart := false, laid := [("loop.example/g00932/impl.errNameTaken", laid_loop_example_g00932_impl_errNameTaken), ("loop.example/g00932/impl.errSiteFull", laid_loop_example_g00932_impl_errSiteFull), ("loop.example/g00932/impl.errTooNear", laid_loop_example_g00932_impl_errTooNear)], narrowed := true }
def FnExactAddCraneUptoSaid : Prop := fnExactAddCraneUptoRow.holds Tryd.pinned (OpenSpec.upto fnExactAddCraneSpec)

/-- 'laws.FnExactRemoveCrane', WHERE WHAT IT READS IS OF BULK AT MOST 1048576: true; the input reads as it did. -/
def fnExactRemoveCraneUptoRow : OpenClaim := { program := "ytlpoeepjilfncaadoor", sum := "c35a317e9484143d6ddf05ffa222de47ef5aa01006a13e36b401c00d8dd71e10", func := "loop.example/g00932/laws.FnExactRemoveCrane", spec := "fnExactRemoveCrane", named := ["loop.example/g00932/impl.errNameTaken", "loop.example/g00932/impl.errSiteFull", "loop.example/g00932/impl.errTooNear"], ifaces := true, apart := false, laid := [("loop.example/g00932/impl.errNameTaken", laid_loop_example_g00932_impl_errNameTaken), ("loop.example/g00932/impl.errSiteFull", laid_loop_example_g00932_impl_errSiteFull), ("loop.example/g00932/impl.errTooNear", laid_loop_example_g00932_impl_errTooNear)], narrowed := true }
def FnExactRemoveCraneUptoSaid : Prop := fnExactRemoveCraneUptoRow.holds Tryd.pinned (OpenSpec.upto fnExactRemoveCraneSpec)

/-- 'laws.FnExactCraneNamed', WHERE WHAT IT READS IS OF BULK AT MOST 1048576: true; the input reads as it did. -/
def fnExactCraneNamedUptoRow : OpenClaim := { program := "ytlpoeepjilfncaadoor", sum := "c35a317e9484143d6ddf05ffa222de47ef5aa01006a13e36b401c00d8dd71e10", func := "loop.example/g00932/laws.FnExactCraneNamed", spec := "fnExactCraneNamed", named := ["loop.example/g00932/impl.errNameTaken", "loop.example/g00932/impl.errSiteFull", "loop.example/g00932/impl.errTooNear"], ifaces := true, apart := false, laid := [("loop.example/g00932/impl.errNameTaken", laid_loop_example_g00932_impl_errNameTaken), ("loop.example/g00932/impl.errSiteFull", laid_loop_example_g00932_impl_errSiteFull), ("loop.example/g00932/impl.errTooNear", laid_loop_example_g00932_impl_errTooNear)], narrowed := true }
def FnExactCraneNamedUptoSaid : Prop := fnExactCraneNamedUptoRow.holds Tryd.pinned (OpenSpec.upto fnExactCraneNamedSpec)

/-- 'laws.FnExactJibEnd', WHERE WHAT IT READS IS OF BULK AT MOST 1048576: true; the input reads as it did. -/
def fnExactJibEndUptoRow : OpenClaim := { program := "ytlpoeepjilfncaadoor", sum := "c35a317e9484143d6ddf05ffa222de47ef5aa01006a13e36b401c00d8dd71e10", func := "loop.example/g00932/laws.FnExactJibEnd", spec := "fnExactJibEnd", named := ["loop.example/g00932/impl.firstVectors"], apart := false, laid := [("loop.example/g00932/impl.firstVectors", laid_loop_example_g00932_impl_firstVectors)], narrowed := true }
def FnExactJibEndUptoSaid : Prop := fnExactJibEndUptoRow.holds Tryd.pinned (OpenSpec.upto fnExactJibEndSpec)

/-- 'laws.FnExactBackEnd', WHERE WHAT IT READS IS OF BULK AT MOST 1048576: true; the input reads as it did. -/
def fnExactBackEndUptoRow : OpenClaim := { program := "ytlpoeepjilfncaadoor", sum := "c35a317e9484143d6ddf05ffa222de47ef5aa01006a13e36b401c00d8dd71e10", func := "loop.example/g00932/laws.FnExactBackEnd", spec := "fnExactBackEnd", named := ["loop.example/g00932/impl.firstVectors"], apart := false, laid := [("loop.example/g00932/impl.firstVectors", laid_loop_example_g00932_impl_firstVectors)], narrowed := true }
def FnExactBackEndUptoSaid : Prop := fnExactBackEndUptoRow.holds Tryd.pinned (OpenSpec.upto fnExactBackEndSpec)

/-- 'laws.FnExactNeighboursOf', WHERE WHAT IT READS IS OF BULK AT MOST 1048576: true; the input reads as it did. -/
def fnExactNeighboursOfUptoRow : OpenClaim := { program := "ytlpoeepjilfncaadoor", sum := "c35a317e9484143d6ddf05ffa222de47ef5aa01006a13e36b401c00d8dd71e10", func := "loop.example/g00932/laws.FnExactNeighboursOf", spec := "fnExactNeighboursOf", unfollowed := true, recurses := true, named := ["loop.example/g00932/impl.errNameTaken", "loop.example/g00932/impl.errSiteFull", "loop.example/g00932/impl.errTooNear"], ifaces := true, apart := false, laid := [("loop.example/g00932/impl.errNameTaken", laid_loop_example_g00932_impl_errNameTaken), ("loop.example/g00932/impl.errSiteFull", laid_loop_example_g00932_impl_errSiteFull), ("loop.example/g00932/impl.errTooNear", laid_loop_example_g00932_impl_errTooNear)], narrowed := true }
def FnExactNeighboursOfUptoSaid : Prop := fnExactNeighboursOfUptoRow.holds Tryd.pinned (OpenSpec.upto fnExactNeighboursOfSpec)

end Rows
end Go.Proofs.YtlpoeepjilfncaaDoor
