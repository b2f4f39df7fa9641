/-
  No cell of these rows narrows 'for every input' (looked for: loops, veiled, ifaces, maps, wideKeys, modest, calm, conditions, laid).
  DERIVED. THE GIVEN ROWS OF THIS SEAT. 8 by the template 'for every input the law returns true; each argument reads behind the call as it read before'; 0 by the template 'total and deterministic' (their statements: YtonhndiflhbkiabTotals.lean).
  GIVEN WITH THE SEED: the statements are not yours to turn. If you find one false, say at which input.
  Laid BY PROGRAM, IN A SANDBOX (cutbox-rows.mjs): the forced cells as the released guide's own fill.sh prints them over the translation 51e3230e4f77af5c… (all of the seat's roots in one cut). By AI agents, Wed Nov 11 2026. No macro, syntax, notation, axiom, sorry.
-/
import Derived.Test.YtonhndiflhbkiabChecked
import GoSem.Claim
import GoSem.ClaimJoined
import GoSem.ClaimMapViews
import Derived.JoinedTies
import Derived.KernelRfl
namespace Go.Proofs.Ytonhndiflhbkiab
/- THE CELL 'sum', in the pinned program and in every row, IS THE sha256 OF THE DUMP (.gsa) THAT YtonhndiflhbkiabProg.lean LOADS. Nothing in Lean hashes anything: it is a label: what it is worth is what the hold of that sum in a sandbox is worth. -/
noncomputable def Try.pinned : Pinned := { name := "ytonhndiflhbkiab", sum := "51e3230e4f77af5c4529dfa488e36de103f179a72d5a8142275aee33c812c61e", checked := Try.checked }
namespace Rows
def none {H : Type} : Left H := { results := [], args := [] }

/-- 'laws.FnExactSameZone': WHATEVER THE INPUT: true; the input reads as it did. -/
def fnExactSameZoneSpec : ChangeSpec := { name := "fnExactSameZone", fn := fun _ => fun
  | [d1, d2] => { results := [.lit (.bool true)], args := [d1, d2] }
  | _ => none }
def fnExactSameZoneRow : OpenClaim := { program := "ytonhndiflhbkiab", sum := "51e3230e4f77af5c4529dfa488e36de103f179a72d5a8142275aee33c812c61e", func := "loop.example/g00932/laws.FnExactSameZone", spec := "fnExactSameZone", apart := false }
def FnExactSameZoneSaid : Prop := fnExactSameZoneRow.holds Try.pinned (OpenSpec.ofChange fnExactSameZoneSpec)

/-- ITS FALSE NEIGHBOUR: 'it returns false'. Refute it at one input. -/
def fnExactSameZoneWrong : ChangeSpec := { name := "fnExactSameZone", fn := fun _ => fun
  | [d1, d2] => { results := [.lit (.bool false)], args := [d1, d2] }
  | _ => none }
def FnExactSameZoneWrongFalsely : Prop := fnExactSameZoneRow.holds Try.pinned (OpenSpec.ofChange fnExactSameZoneWrong)

/-- 'laws.FnExactZoneHeight': WHATEVER THE INPUT: true; the input reads as it did. -/
def fnExactZoneHeightSpec : ChangeSpec := { name := "fnExactZoneHeight", fn := fun _ => fun
  | [d] => { results := [.lit (.bool true)], args := [d] }
  | _ => none }
def fnExactZoneHeightRow : OpenClaim := { program := "ytonhndiflhbkiab", sum := "51e3230e4f77af5c4529dfa488e36de103f179a72d5a8142275aee33c812c61e", func := "loop.example/g00932/laws.FnExactZoneHeight", spec := "fnExactZoneHeight", unfollowed := true, recurses := true, apart := false }
def FnExactZoneHeightSaid : Prop := fnExactZoneHeightRow.holds Try.pinned (OpenSpec.ofChange fnExactZoneHeightSpec)

/-- ITS FALSE NEIGHBOUR: 'it returns false'. Refute it at one input. -/
def fnExactZoneHeightWrong : ChangeSpec := { name := "fnExactZoneHeight", fn := fun _ => fun
  | [d] => { results := [.lit (.bool false)], args := [d] }
  | _ => none }
def FnExactZoneHeightWrongFalsely : Prop := fnExactZoneHeightRow.holds Try.pinned (OpenSpec.ofChange fnExactZoneHeightWrong)

/-- 'laws.FnExactDoubleAreaOf': WHATEVER THE INPUT: true; the input reads as it did. -/
def fnExactDoubleAreaOfSpec : ChangeSpec := { name := "fnExactDoubleAreaOf", fn := fun _ => fun
  | [d] => { results := [.lit (.bool true)], args := [d] }
  | _ => none }
def fnExactDoubleAreaOfRow : OpenClaim := { program := "ytonhndiflhbkiab", sum := "51e3230e4f77af5c4529dfa488e36de103f179a72d5a8142275aee33c812c61e", func := "loop.example/g00932/laws.FnExactDoubleAreaOf", spec := "fnExactDoubleAreaOf", unfollowed := true, recurses := true, apart := false }
def FnExactDoubleAreaOfSaid : Prop := fnExactDoubleAreaOfRow.holds Try.pinned (OpenSpec.ofChange fnExactDoubleAreaOfSpec)

/-- ITS FALSE NEIGHBOUR: 'it returns false'. Refute it at one input. -/
def fnExactDoubleAreaOfWrong : ChangeSpec := { name := "fnExactDoubleAreaOf", fn := fun _ => fun
  | [d] => { results := [.lit (.bool false)], args := [d] }
  | _ => none }
def FnExactDoubleAreaOfWrongFalsely : Prop := fnExactDoubleAreaOfRow.holds Try.pinned (OpenSpec.ofChange fnExactDoubleAreaOfWrong)

/-- 'laws.FnExactPlaceInZone': WHATEVER THE INPUT: true; the input reads as it did. -/
def fnExactPlaceInZoneSpec : ChangeSpec := { name := "fnExactPlaceInZone", fn := fun _ => fun
  | [d1, d2] => { results := [.lit (.bool true)], args := [d1, d2] }
  | _ => none }
def fnExactPlaceInZoneRow : OpenClaim := { program := "ytonhndiflhbkiab", sum := "51e3230e4f77af5c4529dfa488e36de103f179a72d5a8142275aee33c812c61e", func := "loop.example/g00932/laws.FnExactPlaceInZone", spec := "fnExactPlaceInZone", unfollowed := true, recurses := true, apart := false }
def FnExactPlaceInZoneSaid : Prop := fnExactPlaceInZoneRow.holds Try.pinned (OpenSpec.ofChange fnExactPlaceInZoneSpec)

/-- ITS FALSE NEIGHBOUR: 'it returns false'. Refute it at one input. -/
def fnExactPlaceInZoneWrong : ChangeSpec := { name := "fnExactPlaceInZone", fn := fun _ => fun
  | [d1, d2] => { results := [.lit (.bool false)], args := [d1, d2] }
  | _ => none }
def FnExactPlaceInZoneWrongFalsely : Prop := fnExactPlaceInZoneRow.holds Try.pinned (OpenSpec.ofChange fnExactPlaceInZoneWrong)

/-- 'laws.FnExactLineMeetsZone': WHATEVER THE INPUT: true; the input reads as it did. -/
def fnExactLineMeetsZoneSpec : ChangeSpec := { name := "fnExactLineMeetsZone", fn := fun _ => fun
  | [d1, d2, d3] => { results := [.lit (.bool true)], args := [d1, d2, d3] }
  | _ => none }
def fnExactLineMeetsZoneRow : OpenClaim := { program := "ytonhndiflhbkiab", sum := "51e3230e4f77af5c4529dfa488e36de103f179a72d5a8142275aee33c812c61e", func := "loop.example/g00932/laws.FnExactLineMeetsZone", spec := "fnExactLineMeetsZone", unfollowed := true, recurses := true, apart := false }
def FnExactLineMeetsZoneSaid : Prop := fnExactLineMeetsZoneRow.holds Try.pinned (OpenSpec.ofChange fnExactLineMeetsZoneSpec)

/-- ITS FALSE NEIGHBOUR: 'it returns false'. Refute it at one input. -/
def fnExactLineMeetsZoneWrong : ChangeSpec := { name := "fnExactLineMeetsZone", fn := fun _ => fun
  | [d1, d2, d3] => { results := [.lit (.bool false)], args := [d1, d2, d3] }
  | _ => none }
def FnExactLineMeetsZoneWrongFalsely : Prop := fnExactLineMeetsZoneRow.holds Try.pinned (OpenSpec.ofChange fnExactLineMeetsZoneWrong)

/-- 'laws.FnExactBlocksLoad': WHATEVER THE INPUT: true; the input reads as it did. -/
def fnExactBlocksLoadSpec : ChangeSpec := { name := "fnExactBlocksLoad", fn := fun _ => fun
  | [d1, d2] => { results := [.lit (.bool true)], args := [d1, d2] }
  | _ => none }
def fnExactBlocksLoadRow : OpenClaim := { program := "ytonhndiflhbkiab", sum := "51e3230e4f77af5c4529dfa488e36de103f179a72d5a8142275aee33c812c61e", func := "loop.example/g00932/laws.FnExactBlocksLoad", spec := "fnExactBlocksLoad", unfollowed := true, recurses := true, apart := false }
def FnExactBlocksLoadSaid : Prop := fnExactBlocksLoadRow.holds Try.pinned (OpenSpec.ofChange fnExactBlocksLoadSpec)

/-- ITS FALSE NEIGHBOUR: 'it returns false'. Refute it at one input. -/
def fnExactBlocksLoadWrong : ChangeSpec := { name := "fnExactBlocksLoad", fn := fun _ => fun
  | [d1, d2] => { results := [.lit (.bool false)], args := [d1, d2] }
  | _ => none }
def FnExactBlocksLoadWrongFalsely : Prop := fnExactBlocksLoadRow.holds Try.pinned (OpenSpec.ofChange fnExactBlocksLoadWrong)

/-- 'laws.FnExactBlocksJib': WHATEVER THE INPUT: true; the input reads as it did. -/
def fnExactBlocksJibSpec : ChangeSpec := { name := "fnExactBlocksJib", fn := fun _ => fun
  | [d1, d2] => { results := [.lit (.bool true)], args := [d1, d2] }
  | _ => none }
def fnExactBlocksJibRow : OpenClaim := { program := "ytonhndiflhbkiab", sum := "51e3230e4f77af5c4529dfa488e36de103f179a72d5a8142275aee33c812c61e", func := "loop.example/g00932/laws.FnExactBlocksJib", spec := "fnExactBlocksJib", unfollowed := true, recurses := true, apart := false }
def FnExactBlocksJibSaid : Prop := fnExactBlocksJibRow.holds Try.pinned (OpenSpec.ofChange fnExactBlocksJibSpec)

/-- ITS FALSE NEIGHBOUR: 'it returns false'. Refute it at one input. -/
def fnExactBlocksJibWrong : ChangeSpec := { name := "fnExactBlocksJib", fn := fun _ => fun
  | [d1, d2] => { results := [.lit (.bool false)], args := [d1, d2] }
  | _ => none }
def FnExactBlocksJibWrongFalsely : Prop := fnExactBlocksJibRow.holds Try.pinned (OpenSpec.ofChange fnExactBlocksJibWrong)

/-- 'laws.FnExactFirstBlocking': WHATEVER THE INPUT: true; the input reads as it did. -/
def fnExactFirstBlockingSpec : ChangeSpec := { name := "fnExactFirstBlocking", fn := fun _ => fun
  | [d1, d2, d3, d4] => { results := [.lit (.bool true)], args := [d1, d2, d3, d4] }
  | _ => none }
def fnExactFirstBlockingRow : OpenClaim := { program := "ytonhndiflhbkiab", sum := "51e3230e4f77af5c4529dfa488e36de103f179a72d5a8142275aee33c812c61e", func := "loop.example/g00932/laws.FnExactFirstBlocking", spec := "fnExactFirstBlocking", unfollowed := true, recurses := true, apart := false }
def FnExactFirstBlockingSaid : Prop := fnExactFirstBlockingRow.holds Try.pinned (OpenSpec.ofChange fnExactFirstBlockingSpec)

/-- ITS FALSE NEIGHBOUR: 'it returns false'. Refute it at one input. -/
def fnExactFirstBlockingWrong : ChangeSpec := { name := "fnExactFirstBlocking", fn := fun _ => fun
  | [d1, d2, d3, d4] => { results := [.lit (.bool false)], args := [d1, d2, d3, d4] }
  | _ => none }
def FnExactFirstBlockingWrongFalsely : Prop := fnExactFirstBlockingRow.holds Try.pinned (OpenSpec.ofChange fnExactFirstBlockingWrong)

/- THE SECOND FORM. 'bulk': how many values and letters a reading holds, each counted each time it is reached (what is shared counts as often as it is met; a slice's spare places count too). A statement '..UptoSaid' is the law's where the arguments, and the package variables that the reading takes, are together of bulk at most 1048576: NARROWER than '..Said'. Prove '..Said' where nothing that the law and all that it calls make is longer than what came in: it says more and counts as full. Else prove '..UptoSaid'. A law counts once. -/
mutual
def uptoBulk {H : Type} : DataW H → Nat
  | .lit (.string bytes) => bytes.length + 1
  | .lit _ => 1
  | .nil => 1
  | .ptr d => uptoBulk d + 1
  | .slice elems spare => uptoBulkAll elems + uptoBulkAll spare + 1
  | .agg parts => uptoBulkAll parts + 1
  | .iface _ d => uptoBulk d + 1
  | .map entries => uptoBulkEntries entries + 1
  | .held _ => 1
def uptoBulkAll {H : Type} : List (DataW H) → Nat
  | [] => 0
  | d :: r => uptoBulk d + uptoBulkAll r
def uptoBulkEntries {H : Type} : List (Lit × DataW H) → Nat
  | [] => 0
  | x :: r => uptoBulkEntry x + uptoBulkEntries r
def uptoBulkEntry {H : Type} : Lit × DataW H → Nat
  | (.string bytes, d) => bytes.length + uptoBulk d + 1
  | (_, d) => uptoBulk d + 1
 end
def uptoSmall : (H : Type) → List (DataW H) → Bool := fun _ ds => decide (uptoBulkAll ds ≤ 1048576)
def OpenSpec.upto (s : _root_.Go.ChangeSpec) : _root_.Go.OpenSpec := { _root_.Go.OpenSpec.ofChange s with cond := some uptoSmall }

/-- 'laws.FnExactSameZone', WHERE WHAT IT READS IS OF BULK AT MOST 1048576: true; the input reads as it did. -/
def fnExactSameZoneUptoRow : OpenClaim := { program := "ytonhndiflhbkiab", sum := "51e3230e4f77af5c4529dfa488e36de103f179a72d5a8142275aee33c812c61e", func := "loop.example/g00932/laws.FnExactSameZone", spec := "fnExactSameZone", apart := false, narrowed := true }
def FnExactSameZoneUptoSaid : Prop := fnExactSameZoneUptoRow.holds Try.pinned (OpenSpec.upto fnExactSameZoneSpec)

/-- 'laws.FnExactZoneHeight', WHERE WHAT IT READS IS OF BULK AT MOST 1048576: true; the input reads as it did. -/
def fnExactZoneHeightUptoRow : OpenClaim := { program := "ytonhndiflhbkiab", sum := "51e3230e4f77af5c4529dfa488e36de103f179a72d5a8142275aee33c812c61e", func := "loop.example/g00932/laws.FnExactZoneHeight", spec := "fnExactZoneHeight", unfollowed := true, recurses := true, apart := false, narrowed := true }
def FnExactZoneHeightUptoSaid : Prop := fnExactZoneHeightUptoRow.holds Try.pinned (OpenSpec.upto fnExactZoneHeightSpec)

/-- 'laws.FnExactDoubleAreaOf', WHERE WHAT IT READS IS OF BULK AT MOST 1048576: true; the input reads as it did. -/
def fnExactDoubleAreaOfUptoRow : OpenClaim := { program := "ytonhndiflhbkiab", sum := "51e3230e4f77af5c4529dfa488e36de103f179a72d5a8142275aee33c812c61e", func := "loop.example/g00932/laws.FnExactDoubleAreaOf", spec := "fnExactDoubleAreaOf", unfollowed := true, recurses := true, apart := false, narrowed := true }
def FnExactDoubleAreaOfUptoSaid : Prop := fnExactDoubleAreaOfUptoRow.holds Try.pinned (OpenSpec.upto fnExactDoubleAreaOfSpec)

/-- 'laws.FnExactPlaceInZone', WHERE WHAT IT READS IS OF BULK AT MOST 1048576: true; the input reads as it did. -/
def fnExactPlaceInZoneUptoRow : OpenClaim := { program := "ytonhndiflhbkiab", sum := "51e3230e4f77af5c4529dfa488e36de103f179a72d5a8142275aee33c812c61e", func := "loop.example/g00932/laws.FnExactPlaceInZone", spec := "fnExactPlaceInZone", unfollowed := true, recurses := true, apart := false, narrowed := true }
def FnExactPlaceInZoneUptoSaid : Prop := fnExactPlaceInZoneUptoRow.holds Try.pinned (OpenSpec.upto fnExactPlaceInZoneSpec)

/-- 'laws.FnExactLineMeetsZone', WHERE WHAT IT READS IS OF BULK AT MOST 1048576: true; the input reads as it did. -/
def fnExactLineMeetsZoneUptoRow : OpenClaim := { program := "ytonhndiflhbkiab", sum := "51e3230e4f77af5c4529dfa488e36de103f179a72d5a8142275aee33c812c61e", func := "loop.example/g00932/laws.FnExactLineMeetsZone", spec := "fnExactLineMeetsZone", unfollowed := true, recurses := true, apart := false, narrowed := true }
def FnExactLineMeetsZoneUptoSaid : Prop := fnExactLineMeetsZoneUptoRow.holds Try.pinned (OpenSpec.upto fnExactLineMeetsZoneSpec)

/-- 'laws.FnExactBlocksLoad', WHERE WHAT IT READS IS OF BULK AT MOST 1048576: true; the input reads as it did. -/
def fnExactBlocksLoadUptoRow : OpenClaim := { program := "ytonhndiflhbkiab", sum := "51e3230e4f77af5c4529dfa488e36de103f179a72d5a8142275aee33c812c61e", func := "loop.example/g00932/laws.FnExactBlocksLoad", spec := "fnExactBlocksLoad", unfollowed := true, recurses := true, apart := false, narrowed := true }
def FnExactBlocksLoadUptoSaid : Prop := fnExactBlocksLoadUptoRow.holds Try.pinned (OpenSpec.upto fnExactBlocksLoadSpec)

/-- 'laws.FnExactBlocksJib', WHERE WHAT IT READS IS OF BULK AT MOST 1048576: true; the input reads as it did. -/
def fnExactBlocksJibUptoRow : OpenClaim := { program := "ytonhndiflhbkiab", sum := "51e3230e4f77af5c4529dfa488e36de103f179a72d5a8142275aee33c812c61e", func := "loop.example/g00932/laws.FnExactBlocksJib", spec := "fnExactBlocksJib", unfollowed := true, recurses := true, apart := false, narrowed := true }
def FnExactBlocksJibUptoSaid : Prop := fnExactBlocksJibUptoRow.holds Try.pinned (OpenSpec.upto fnExactBlocksJibSpec)

/-- 'laws.FnExactFirstBlocking', WHERE WHAT IT READS IS OF BULK AT MOST 1048576: true; the input reads as it did. -/
def fnExactFirstBlockingUptoRow : OpenClaim := { program := "ytonhndiflhbkiab", sum := "51e3230e4f77af5c4529dfa488e36de103f179a72d5a8142275aee33c812c61e", func := "loop.example/g00932/laws.FnExactFirstBlocking", spec := "fnExactFirstBlocking", unfollowed := true, recurses := true, apart := false, narrowed := true }
def FnExactFirstBlockingUptoSaid : Prop := fnExactFirstBlockingUptoRow.holds Try.pinned (OpenSpec.upto fnExactFirstBlockingSpec)

end Rows
end Go.Proofs.Ytonhndiflhbkiab
