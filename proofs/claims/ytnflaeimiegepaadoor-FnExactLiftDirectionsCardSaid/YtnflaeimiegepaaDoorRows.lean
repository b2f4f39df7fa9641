/-
  NARROWER THAN 'FOR EVERY INPUT', by the rows' own cells (each row's printed sentence says how): FnAbilities: ifaces, laid · FnHeaviest: ifaces, laid · FnTimes: laid · FnExactZoneText: laid · FnExactReadZone: laid · FnExactLiftDirections: laid.
  DERIVED. THE GIVEN ROWS OF THIS SEAT. 6 by the template 'for every input the law returns true; each argument reads behind the call as it read before'; 0 by the template 'total and deterministic' (their statements: YtnflaeimiegepaaDoorTotals.lean).
  GIVEN WITH THE SEED: the statements are not yours to turn. If you find one false, say at which input.
  Laid BY PROGRAM, IN A SANDBOX (cutbox-rows.mjs): the forced cells as the released guide's own fill.sh prints them over the translation 3ba7407608a0d9c4… (all of the seat's roots in one cut). By AI agents, Wed Nov 11 2026. No macro, syntax, notation, axiom, sorry.
-/
import Derived.Test.YtnflaeimiegepaaDoorChecked
import GoSem.Claim
import GoSem.ClaimJoined
import GoSem.ClaimMapViews
import Derived.JoinedTies
import Derived.KernelRfl
namespace Go.Proofs.YtnflaeimiegepaaDoor
/- THE CELL 'sum', in the pinned program and in every row, IS THE sha256 OF THE DUMP (.gsa) THAT YtnflaeimiegepaaDoorProg.lean LOADS. Nothing in Lean hashes anything: it is a label: what it is worth is what the hold of that sum in a sandbox is worth. -/
noncomputable def Tryd.pinned : Pinned := { name := "ytnflaeimiegepaadoor", sum := "3ba7407608a0d9c40c39edcf61fa623f91060a0ce8a566f7f0f1c715f1afc0dd", checked := Tryd.checked }
namespace Rows
def none {H : Type} : Left H := { results := [], args := [] }

/- WHAT THE LISTED PACKAGE-LEVEL VARIABLES READ AS WHEN THE CALL BEGINS. Each datum BY PROGRAM (the guide's laid-datum.mjs) off the statement by which the dump's own 'gosem.cut.vars' lays the variable. In a bare row this is a premise. The card (YtnflaeimiegepaaDoorCards.lean) ties it to the program's text. -/
def laid_loop_example_g00932_impl_errNameTaken {H : Type} : DataW H := .iface "*errors.errorString" (.ptr (.agg [.lit (.string [97, 110, 111, 116, 104, 101, 114, 32, 99, 114, 97, 110, 101, 32, 104, 97, 115, 32, 116, 104, 101, 32, 110, 97, 109, 101])]))
def laid_loop_example_g00932_impl_errSiteFull {H : Type} : DataW H := .iface "*errors.errorString" (.ptr (.agg [.lit (.string [116, 104, 101, 114, 101, 32, 105, 115, 32, 110, 111, 32, 114, 111, 111, 109, 32, 102, 111, 114, 32, 111, 110, 101, 32, 109, 111, 114, 101, 32, 99, 114, 97, 110, 101])]))
def laid_loop_example_g00932_impl_errTooNear {H : Type} : DataW H := .iface "*errors.errorString" (.ptr (.agg [.lit (.string [97, 110, 111, 116, 104, 101, 114, 32, 99, 114, 97, 110, 101, 32, 115, 116, 97, 110, 100, 115, 32, 116, 111, 111, 32, 110, 101, 97, 114])]))
def laid_loop_example_g00932_impl_firstVectors {H : Type} : DataW H := .agg [.agg [.lit (.int .i64 1000), .lit (.int .i64 0)], .agg [.lit (.int .i64 966), .lit (.int .i64 259)], .agg [.lit (.int .i64 866), .lit (.int .i64 500)], .agg [.lit (.int .i64 707), .lit (.int .i64 707)], .agg [.lit (.int .i64 500), .lit (.int .i64 866)], .agg [.lit (.int .i64 259), .lit (.int .i64 966)]]
def laid_math_bits_deBruijn32tab {H : Type} : DataW H := .agg [.lit (.int .u8 0), .lit (.int .u8 1), .lit (.int .u8 28), .lit (.int .u8 2), .lit (.int .u8 29), .lit (.int .u8 14), .lit (.int .u8 24), .lit (.int .u8 3), .lit (.int .u8 30), .lit (.int .u8 22), .lit (.int .u8 20), .lit (.int .u8 15), .lit (.int .u8 25), .lit (.int .u8 17), .lit (.int .u8 4), .lit (.int .u8 8), .lit (.int .u8 31), .lit (.int .u8 27), .lit (.int .u8 13), .lit (.int .u8 23), .lit (.int .u8 21), .lit (.int .u8 19), .lit (.int .u8 16), .lit (.int .u8 7), .lit (.int .u8 26), .lit (.int .u8 12), .lit (.int .u8 18), .lit (.int .u8 6), .lit (.int .u8 11), .lit (.int .u8 5), .lit (.int .u8 10), .lit (.int .u8 9)]
def laid_math_bits_deBruijn64tab {H : Type} : DataW H := .agg [.lit (.int .u8 0), .lit (.int .u8 1), .lit (.int .u8 56), .lit (.int .u8 2), .lit (.int .u8 57), .lit (.int .u8 49), .lit (.int .u8 28), .lit (.int .u8 3), .lit (.int .u8 61), .lit (.int .u8 58), .lit (.int .u8 42), .lit (.int .u8 50), .lit (.int .u8 38), .lit (.int .u8 29), .lit (.int .u8 17), .lit (.int .u8 4), .lit (.int .u8 62), .lit (.int .u8 47), .lit (.int .u8 59), .lit (.int .u8 36), .lit (.int .u8 45), .lit (.int .u8 43), .lit (.int .u8 51), .lit (.int .u8 22), .lit (.int .u8 53), .lit (.int .u8 39), .lit (.int .u8 33), .lit (.int .u8 30), .lit (.int .u8 24), .lit (.int .u8 18), .lit (.int .u8 12), .lit (.int .u8 5), .lit (.int .u8 63), .lit (.int .u8 55), .lit (.int .u8 48), .lit (.int .u8 27), .lit (.int .u8 60), .lit (.int .u8 41), .lit (.int .u8 37), .lit (.int .u8 16), .lit (.int .u8 46), .lit (.int .u8 35), .lit (.int .u8 44), .lit (.int .u8 21), .lit (.int .u8 52), .lit (.int .u8 32), .lit (.int .u8 23), .lit (.int .u8 11), .lit (.int .u8 54), .lit (.int .u8 26), .lit (.int .u8 40), .lit (.int .u8 15), .lit (.int .u8 34), .lit (.int .u8 20), .lit (.int .u8 31), .lit (.int .u8 10), .lit (.int .u8 25), .lit (.int .u8 14), .lit (.int .u8 19), .lit (.int .u8 9), .lit (.int .u8 13), .lit (.int .u8 8), .lit (.int .u8 7), .lit (.int .u8 6)]
def laid_internal_strconv_uint64pow10 {H : Type} : DataW H := .agg [.lit (.int .u64 1), .lit (.int .u64 10), .lit (.int .u64 100), .lit (.int .u64 1000), .lit (.int .u64 10000), .lit (.int .u64 100000), .lit (.int .u64 1000000), .lit (.int .u64 10000000), .lit (.int .u64 100000000), .lit (.int .u64 1000000000), .lit (.int .u64 10000000000), .lit (.int .u64 100000000000), .lit (.int .u64 1000000000000), .lit (.int .u64 10000000000000), .lit (.int .u64 100000000000000), .lit (.int .u64 1000000000000000), .lit (.int .u64 10000000000000000), .lit (.int .u64 100000000000000000), .lit (.int .u64 1000000000000000000), .lit (.int .u64 10000000000000000000)]
def laid_loop_example_g00932_impl_zoneWords {H : Type} : DataW H := .agg [.lit (.string [98, 117, 105, 108, 100, 105, 110, 103]), .lit (.string [114, 111, 97, 100]), .lit (.string [97, 105, 114])]
def laid_strconv_ErrRange {H : Type} : DataW H := .iface "*errors.errorString" (.ptr (.agg [.lit (.string [118, 97, 108, 117, 101, 32, 111, 117, 116, 32, 111, 102, 32, 114, 97, 110, 103, 101])]))
def laid_strconv_ErrSyntax {H : Type} : DataW H := .iface "*errors.errorString" (.ptr (.agg [.lit (.string [105, 110, 118, 97, 108, 105, 100, 32, 115, 121, 110, 116, 97, 120])]))

/-- 'laws.FnAbilities': WHATEVER THE INPUT: true; the input reads as it did. -/
def fnAbilitiesSpec : ChangeSpec := { name := "fnAbilities", vars := ["loop.example/g00932/impl.errNameTaken", "loop.example/g00932/impl.errSiteFull", "loop.example/g00932/impl.errTooNear"], fn := fun _ => fun
  | [d, g1, g2, g3] => { results := [.lit (.bool true)], args := [d], vars := [g1, g2, g3] }
  | _ => none }
def fnAbilitiesRow : OpenClaim := { program := "ytnflaeimiegepaadoor", sum := "3ba7407608a0d9c40c39edcf61fa623f91060a0ce8a566f7f0f1c715f1afc0dd", func := "loop.example/g00932/laws.FnAbilities", spec := "fnAbilities", unfollowed := true, recurses := true, named := ["loop.example/g00932/impl.errNameTaken", "loop.example/g00932/impl.errSiteFull", "loop.example/g00932/impl.errTooNear"], ifaces := true, apart := false, laid := [("loop.example/g00932/impl.errNameTaken", laid_loop_example_g00932_impl_errNameTaken), ("loop.example/g00932/impl.errSiteFull", laid_loop_example_g00932_impl_errSiteFull), ("loop.example/g00932/impl.errTooNear", laid_loop_example_g00932_impl_errTooNear)] }
def FnAbilitiesSaid : Prop := fnAbilitiesRow.holds Tryd.pinned (OpenSpec.ofChange fnAbilitiesSpec)

/-- ITS FALSE NEIGHBOUR: 'it returns false'. Refute it at one input. -/
def fnAbilitiesWrong : ChangeSpec := { name := "fnAbilities", vars := ["loop.example/g00932/impl.errNameTaken", "loop.example/g00932/impl.errSiteFull", "loop.example/g00932/impl.errTooNear"], fn := fun _ => fun
  | [d, g1, g2, g3] => { results := [.lit (.bool false)], args := [d], vars := [g1, g2, g3] }
  | _ => none }
def FnAbilitiesWrongFalsely : Prop := fnAbilitiesRow.holds Tryd.pinned (OpenSpec.ofChange fnAbilitiesWrong)

/-- 'laws.FnHeaviest': WHATEVER THE INPUT: true; the input reads as it did. -/
def fnHeaviestSpec : ChangeSpec := { name := "fnHeaviest", vars := ["loop.example/g00932/impl.errNameTaken", "loop.example/g00932/impl.errSiteFull", "loop.example/g00932/impl.errTooNear", "loop.example/g00932/impl.firstVectors"], fn := fun _ => fun
  | [d1, d2, g1, g2, g3, g4] => { results := [.lit (.bool true)], args := [d1, d2], vars := [g1, g2, g3, g4] }
  | _ => none }
def fnHeaviestRow : OpenClaim := { program := "ytnflaeimiegepaadoor", sum := "3ba7407608a0d9c40c39edcf61fa623f91060a0ce8a566f7f0f1c715f1afc0dd", func := "loop.example/g00932/laws.FnHeaviest", spec := "fnHeaviest", unfollowed := true, recurses := true, named := ["loop.example/g00932/impl.errNameTaken", "loop.example/g00932/impl.errSiteFull", "loop.example/g00932/impl.errTooNear", "loop.example/g00932/impl.firstVectors"], ifaces := true, apart := false, laid := [("loop.example/g00932/impl.firstVectors", laid_loop_example_g00932_impl_firstVectors), ("loop.example/g00932/impl.errNameTaken", laid_loop_example_g00932_impl_errNameTaken), ("loop.example/g00932/impl.errSiteFull", laid_loop_example_g00932_impl_errSiteFull), ("loop.example/g00932/impl.errTooNear", laid_loop_example_g00932_impl_errTooNear)] }
def FnHeaviestSaid : Prop := fnHeaviestRow.holds Tryd.pinned (OpenSpec.ofChange fnHeaviestSpec)

/-- ITS FALSE NEIGHBOUR: 'it returns false'. Refute it at one input. -/
def fnHeaviestWrong : ChangeSpec := { name := "fnHeaviest", vars := ["loop.example/g00932/impl.errNameTaken", "loop.example/g00932/impl.errSiteFull", "loop.example/g00932/impl.errTooNear", "loop.example/g00932/impl.firstVectors"], fn := fun _ => fun
  | [d1, d2, g1, g2, g3, g4] => { results := [.lit (.bool false)], args := [d1, d2], vars := [g1, g2, g3, g4] }
  | _ => none }
def FnHeaviestWrongFalsely : Prop := fnHeaviestRow.holds Tryd.pinned (OpenSpec.ofChange fnHeaviestWrong)

/-- 'laws.FnTimes': WHATEVER THE INPUT: true; the input reads as it did. -/
def fnTimesSpec : ChangeSpec := { name := "fnTimes", vars := ["loop.example/g00932/impl.firstVectors"], fn := fun _ => fun
  | [d1, d2, g1] => { results := [.lit (.bool true)], args := [d1, d2], vars := [g1] }
  | _ => none }
def fnTimesRow : OpenClaim := { program := "ytnflaeimiegepaadoor", sum := "3ba7407608a0d9c40c39edcf61fa623f91060a0ce8a566f7f0f1c715f1afc0dd", func := "loop.example/g00932/laws.FnTimes", spec := "fnTimes", unfollowed := true, recurses := true, named := ["loop.example/g00932/impl.firstVectors"], apart := false, laid := [("loop.example/g00932/impl.firstVectors", laid_loop_example_g00932_impl_firstVectors)] }
def FnTimesSaid : Prop := fnTimesRow.holds Tryd.pinned (OpenSpec.ofChange fnTimesSpec)

/-- ITS FALSE NEIGHBOUR: 'it returns false'. Refute it at one input. -/
def fnTimesWrong : ChangeSpec := { name := "fnTimes", vars := ["loop.example/g00932/impl.firstVectors"], fn := fun _ => fun
  | [d1, d2, g1] => { results := [.lit (.bool false)], args := [d1, d2], vars := [g1] }
  | _ => none }
def FnTimesWrongFalsely : Prop := fnTimesRow.holds Tryd.pinned (OpenSpec.ofChange fnTimesWrong)

/-- 'laws.FnExactZoneText': WHATEVER THE INPUT: true; the input reads as it did. -/
def fnExactZoneTextSpec : ChangeSpec := { name := "fnExactZoneText", vars := ["loop.example/g00932/impl.zoneWords"], fn := fun _ => fun
  | [d, g1] => { results := [.lit (.bool true)], args := [d], vars := [g1] }
  | _ => none }
def fnExactZoneTextRow : OpenClaim := { program := "ytnflaeimiegepaadoor", sum := "3ba7407608a0d9c40c39edcf61fa623f91060a0ce8a566f7f0f1c715f1afc0dd", func := "loop.example/g00932/laws.FnExactZoneText", spec := "fnExactZoneText", inPlace := ["internal/abi.NoEscape", "internal/bytealg.MakeNoZero"], unfollowed := true, recurses := true, named := ["loop.example/g00932/impl.zoneWords", "internal/strconv.uint64pow10", "math/bits.deBruijn32tab", "math/bits.deBruijn64tab"], apart := false, laid := [("math/bits.deBruijn32tab", laid_math_bits_deBruijn32tab), ("math/bits.deBruijn64tab", laid_math_bits_deBruijn64tab), ("internal/strconv.uint64pow10", laid_internal_strconv_uint64pow10), ("loop.example/g00932/impl.zoneWords", laid_loop_example_g00932_impl_zoneWords)] }
def FnExactZoneTextSaid : Prop := fnExactZoneTextRow.holds Tryd.pinned (OpenSpec.ofChange fnExactZoneTextSpec)

/-- ITS FALSE NEIGHBOUR: 'it returns false'. Refute it at one input. -/
def fnExactZoneTextWrong : ChangeSpec := { name := "fnExactZoneText", vars := ["loop.example/g00932/impl.zoneWords"], fn := fun _ => fun
  | [d, g1] => { results := [.lit (.bool false)], args := [d], vars := [g1] }
  | _ => none }
def FnExactZoneTextWrongFalsely : Prop := fnExactZoneTextRow.holds Tryd.pinned (OpenSpec.ofChange fnExactZoneTextWrong)

/-- 'laws.FnExactReadZone': WHATEVER THE INPUT: true; the input reads as it did. -/
def fnExactReadZoneSpec : ChangeSpec := { name := "fnExactReadZone", vars := ["loop.example/g00932/impl.zoneWords"], fn := fun _ => fun
  | [d, g1] => { results := [.lit (.bool true)], args := [d], vars := [g1] }
  | _ => none }
def fnExactReadZoneRow : OpenClaim := { program := "ytnflaeimiegepaadoor", sum := "3ba7407608a0d9c40c39edcf61fa623f91060a0ce8a566f7f0f1c715f1afc0dd", func := "loop.example/g00932/laws.FnExactReadZone", spec := "fnExactReadZone", unfollowed := true, recurses := true, named := ["loop.example/g00932/impl.zoneWords", "strconv.ErrSyntax", "strconv.ErrRange", "internal/strconv.uint64pow10", "math/bits.deBruijn32tab", "math/bits.deBruijn64tab"], apart := false, laid := [("math/bits.deBruijn32tab", laid_math_bits_deBruijn32tab), ("math/bits.deBruijn64tab", laid_math_bits_deBruijn64tab), ("internal/strconv.uint64pow10", laid_internal_strconv_uint64pow10), ("strconv.ErrRange", laid_strconv_ErrRange), ("strconv.ErrSyntax", laid_strconv_ErrSyntax), ("loop.example/g00932/impl.zoneWords", laid_loop_example_g00932_impl_zoneWords)] }
def FnExactReadZoneSaid : Prop := fnExactReadZoneRow.holds Tryd.pinned (OpenSpec.ofChange fnExactReadZoneSpec)

/-- ITS FALSE NEIGHBOUR: 'it returns false'. Refute it at one input. -/
def fnExactReadZoneWrong : ChangeSpec := { name := "fnExactReadZone", vars := ["loop.example/g00932/impl.zoneWords"], fn := fun _ => fun
  | [d, g1] => { results := [.lit (.bool false)], args := [d], vars := [g1] }
  | _ => none }
def FnExactReadZoneWrongFalsely : Prop := fnExactReadZoneRow.holds Tryd.pinned (OpenSpec.ofChange fnExactReadZoneWrong)

/-- 'laws.FnExactLiftDirections': WHATEVER THE INPUT: true; the input reads as it did. -/
def fnExactLiftDirectionsSpec : ChangeSpec := { name := "fnExactLiftDirections", vars := ["loop.example/g00932/impl.firstVectors"], fn := fun _ => fun
  | [d1, d2, g1] => { results := [.lit (.bool true)], args := [d1, d2], vars := [g1] }
  | _ => none }
def fnExactLiftDirectionsRow : OpenClaim := { program := "ytnflaeimiegepaadoor", sum := "3ba7407608a0d9c40c39edcf61fa623f91060a0ce8a566f7f0f1c715f1afc0dd", func := "loop.example/g00932/laws.FnExactLiftDirections", spec := "fnExactLiftDirections", unfollowed := true, recurses := true, named := ["loop.example/g00932/impl.firstVectors"], apart := false, laid := [("loop.example/g00932/impl.firstVectors", laid_loop_example_g00932_impl_firstVectors)] }
def FnExactLiftDirectionsSaid : Prop := fnExactLiftDirectionsRow.holds Tryd.pinned (OpenSpec.ofChange fnExactLiftDirectionsSpec)

/-- ITS FALSE NEIGHBOUR: 'it returns false'. Refute it at one input. -/
def fnExactLiftDirectionsWrong : ChangeSpec := { name := "fnExactLiftDirections", vars := ["loop.example/g00932/impl.firstVectors"], fn := fun _ => fun
  | [d1, d2, g1] => { results := [.lit (.bool false)], args := [d1, d2], vars := [g1] }
  | _ => none }
def FnExactLiftDirectionsWrongFalsely : Prop := fnExactLiftDirectionsRow.holds Tryd.pinned (OpenSpec.ofChange fnExactLiftDirectionsWrong)

/- THE SECOND FORM. 'bulk': how many values and letters a reading holds, each counted each time it is reached (what is shared counts as often as it is met; a slice's spare places count too). A statement '..UptoSaid' is the law's where the arguments, and the package variables that the reading takes, are together of bulk at most 1048576: NARROWER than '..Said'. Prove '..Said' where nothing that the law and all that it calls make is longer than what came in: it says more and counts as full. Else prove '..UptoSaid'. A law counts once. -/
mutual
def uptoBulk {H : Type} : DataW H → Nat
  | .lit (.string bytes) => bytes.length + 1
  | .lit _ => 1
  | .nil => 1
  | .ptr d => uptoBulk d + 1
  | .slice elems spare => uptoBulkAll elems + uptoBulkAll spare + 1
  | .agg parts => uptoBulkAll parts + 1
  | .iface _ d => uptoBulk d + 1
  | .map entries => uptoBulkEntries entries + 1
  | .held _ => 1
def uptoBulkAll {H : Type} : List (DataW H) → Nat
  | [] => 0
  | d :: r => uptoBulk d + uptoBulkAll r
def uptoBulkEntries {H : Type} : List (Lit × DataW H) → Nat
  | [] => 0
  | x :: r => uptoBulkEntry x + uptoBulkEntries r
def uptoBulkEntry {H : Type} : Lit × DataW H → Nat
  | (.string bytes, d) => bytes.length + uptoBulk d + 1
  | (_, d) => uptoBulk d + 1
 end
def uptoSmall : (H : Type) → List (DataW H) → Bool := fun _ ds => decide (uptoBulkAll ds ≤ 1048576)
def OpenSpec.upto (s : _root_.Go.ChangeSpec) : _root_.Go.OpenSpec := { _root_.Go.OpenSpec.ofChange s with cond := some uptoSmall }

/-- 'laws.FnAbilities', WHERE WHAT IT READS IS OF BULK AT MOST 1048576: true; the input reads as it did. -/
def fnAbilitiesUptoRow : OpenClaim := { program := "ytnflaeimiegepaadoor", sum := "3ba7407608a0d9c40c39edcf61fa623f91060a0ce8a566f7f0f1c715f1afc0dd", func := "loop.example/g00932/laws.FnAbilities", spec := "fnAbilities", unfollowed := true, recurses := true, named := ["loop.example/g00932/impl.errNameTaken", "loop.example/g00932/impl.errSiteFull", "loop.example/g00932/impl.errTooNear"], ifaces := true, apart := false, laid := [("loop.example/g00932/impl.errNameTaken", laid_loop_example_g00932_impl_errNameTaken), ("loop.example/g00932/impl.errSiteFull", laid_loop_example_g00932_impl_errSiteFull), ("loop.example/g00932/impl.errTooNear", laid_loop_example_g00932_impl_errTooNear)], narrowed := true }
def FnAbilitiesUptoSaid : Prop := fnAbilitiesUptoRow.holds Tryd.pinned (OpenSpec.upto fnAbilitiesSpec)

/-- 'laws.FnHeaviest', WHERE WHAT IT READS IS OF BULK AT MOST 1048576: true; the input reads as it did. -/
def fnHeaviestUptoRow : OpenClaim := { program := "ytnflaeimiegepaadoor", sum := "3ba7407608a0d9c40c39edcf61fa623f91060a0ce8a566f7f0f1c715f1afc0dd", func := "loop.example/g00932/laws.FnHeaviest", spec := "fnHeaviest", unfollowed := true, recurses := true, named := ["loop.example/g00932/impl.errNameTaken", "loop.example/g00932/impl.errSiteFull", "loop.example/g00932/impl.errTooNear", "loop.example/g00932/impl.firstVectors"], ifaces := true, apart := false, laid := [("loop.example/g00932/impl.firstVectors", laid_loop_example_g00932_impl_firstVectors), ("loop.example/g00932/impl.errNameTaken", laid_loop_example_g00932_impl_errNameTaken), ("loop.example/g00932/impl.errSiteFull", laid_loop_example_g00932_impl_errSiteFull), ("loop.example/g00932/impl.errTooNear", laid_loop_example_g00932_impl_errTooNear)], narrowed := true }
def FnHeaviestUptoSaid : Prop := fnHeaviestUptoRow.holds Tryd.pinned (OpenSpec.upto fnHeaviestSpec)

/-- 'laws.FnTimes', WHERE WHAT IT READS IS OF BULK AT MOST 1048576: true; the input reads as it did. -/
def fnTimesUptoRow : OpenClaim := { program := "ytnflaeimiegepaadoor", sum := "3ba7407608a0d9c40c39edcf61fa623f91060a0ce8a566f7f0f1c715f1afc0dd", func := "loop.example/g00932/laws.FnTimes", spec := "fnTimes", unfollowed := true, recurses := true, named := ["loop.example/g00932/impl.firstVectors"], apart := false, laid := [("loop.example/g00932/impl.firstVectors", laid_loop_example_g00932_impl_firstVectors)], narrowed := true }
def FnTimesUptoSaid : Prop := fnTimesUptoRow.holds Tryd.pinned (OpenSpec.upto fnTimesSpec)

/-- 'laws.FnExactZoneText', WHERE WHAT IT READS IS OF BULK AT MOST 1048576: true; the input reads as it did. -/
def fnExactZoneTextUptoRow : OpenClaim := { program := "ytnflaeimiegepaadoor", sum := "3ba7407608a0d9c40c39edcf61fa623f91060a0ce8a566f7f0f1c715f1afc0dd", func := "loop.example/g00932/laws.FnExactZoneText", spec := "fnExactZoneText", inPlace := ["internal/abi.NoEscape", "internal/bytealg.MakeNoZero"], unfollowed := true, recurses := true, named := ["loop.example/g00932/impl.zoneWords", "internal/strconv.uint64pow10", "math/bits.deBruijn32tab", "math/bits.deBruijn64tab"], apart := false, laid := [("math/bits.deBruijn32tab", laid_math_bits_deBruijn32tab), ("math/bits.deBruijn64tab", laid_math_bits_deBruijn64tab), ("internal/strconv.uint64pow10", laid_internal_strconv_uint64pow10), ("loop.example/g00932/impl.zoneWords", laid_loop_example_g00932_impl_zoneWords)], narrowed := true }
def FnExactZoneTextUptoSaid : Prop := fnExactZoneTextUptoRow.holds Tryd.pinned (OpenSpec.upto fnExactZoneTextSpec)

/-- 'laws.FnExactReadZone', WHERE WHAT IT READS IS OF BULK AT MOST 1048576: true; the input reads as it did. -/
def fnExactReadZoneUptoRow : OpenClaim := { program := "ytnflaeimiegepaadoor", sum := "3ba7407608a0d9c40c39edcf61fa623f91060a0ce8a566f7f0f1c715f1afc0dd", func := "loop.example/g00932/laws.FnExactReadZone", spec := "fnExactReadZone", unfollowed := true, recurses := true, named := ["loop.example/g00932/impl.zoneWords", "strconv.ErrSyntax", "strconv.ErrRange", "internal/strconv.uint64pow10", "math/bits.deBruijn32tab", "math/bits.deBruijn64tab"], apart := false, laid := [("math/bits.deBruijn32tab", laid_math_bits_deBruijn32tab), ("math/bits.deBruijn64tab", laid_math_bits_deBruijn64tab), ("internal/strconv.uint64pow10", laid_internal_strconv_uint64pow10), ("strconv.ErrRange", laid_strconv_ErrRange), ("strconv.ErrSyntax", laid_strconv_ErrSyntax), ("loop.example/g00932/impl.zoneWords", laid_loop_example_g00932_impl_zoneWords)], narrowed := true }
def FnExactReadZoneUptoSaid : Prop := fnExactReadZoneUptoRow.holds Tryd.pinned (OpenSpec.upto fnExactReadZoneSpec)

/-- 'laws.FnExactLiftDirections', WHERE WHAT IT READS IS OF BULK AT MOST 1048576: true; the input reads as it did. -/
def fnExactLiftDirectionsUptoRow : OpenClaim := { program := "ytnflaeimiegepaadoor", sum := "3ba7407608a0d9c40c39edcf61fa623f91060a0ce8a566f7f0f1c715f1afc0dd", func := "loop.example/g00932/laws.FnExactLiftDirections", spec := "fnExactLiftDirections", unfollowed := true, recurses := true, named := ["loop.example/g00932/impl.firstVectors"], apart := false, laid := [("loop.example/g00932/impl.firstVectors", laid_loop_example_g00932_impl_firstVectors)], narrowed := true }
def FnExactLiftDirectionsUptoSaid : Prop := fnExactLiftDirectionsUptoRow.holds Tryd.pinned (OpenSpec.upto fnExactLiftDirectionsSpec)

end Rows
end Go.Proofs.YtnflaeimiegepaaDoor
