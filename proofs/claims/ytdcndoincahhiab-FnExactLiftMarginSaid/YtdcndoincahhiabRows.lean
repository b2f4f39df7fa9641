/-
  No cell of these rows narrows 'for every input' (looked for: loops, veiled, ifaces, maps, wideKeys, modest, calm, conditions, laid).
  DERIVED. THE GIVEN ROWS OF THIS SEAT. 6 by the template 'for every input the law returns true; each argument reads behind the call as it read before'; 0 by the template 'total and deterministic' (their statements: YtdcndoincahhiabTotals.lean).
  GIVEN WITH THE SEED: the statements are not yours to turn. If you find one false, say at which input.
  Laid BY PROGRAM, IN A SANDBOX (cutbox-rows.mjs): the forced cells as the released guide's own fill.sh prints them over the translation 247002061d7a3169… (all of the seat's roots in one cut). By AI agents, Wed Nov 11 2026. No macro, syntax, notation, axiom, sorry.
-/
import Derived.Test.YtdcndoincahhiabChecked
import GoSem.Claim
import GoSem.ClaimJoined
import GoSem.ClaimMapViews
import Derived.JoinedTies
import Derived.KernelRfl
namespace Go.Proofs.Ytdcndoincahhiab
/- THE CELL 'sum', in the pinned program and in every row, IS THE sha256 OF THE DUMP (.gsa) THAT YtdcndoincahhiabProg.lean LOADS. Nothing in Lean hashes anything: it is a label: what it is worth is what the hold of that sum in a sandbox is worth. -/
noncomputable def Try.pinned : Pinned := { name := "ytdcndoincahhiab", sum := "247002061d7a3169f8871687ce67c0a437538d4ec637f6434b8c1a2e71726854", checked := Try.checked }
namespace Rows
def none {H : Type} : Left H := { results := [], args := [] }

/-- 'laws.FnExactUrgentOrder': WHATEVER THE INPUT: true; the input reads as it did. -/
def fnExactUrgentOrderSpec : ChangeSpec := { name := "fnExactUrgentOrder", fn := fun _ => fun
  | [d] => { results := [.lit (.bool true)], args := [d] }
  | _ => none }
def fnExactUrgentOrderRow : OpenClaim := { program := "ytdcndoincahhiab", sum := "247002061d7a3169f8871687ce67c0a437538d4ec637f6434b8c1a2e71726854", func := "loop.example/g00932/laws.FnExactUrgentOrder", spec := "fnExactUrgentOrder", unfollowed := true, recurses := true, apart := false }
def FnExactUrgentOrderSaid : Prop := fnExactUrgentOrderRow.holds Try.pinned (OpenSpec.ofChange fnExactUrgentOrderSpec)

/-- ITS FALSE NEIGHBOUR: 'it returns false'. Refute it at one input. -/
def fnExactUrgentOrderWrong : ChangeSpec := { name := "fnExactUrgentOrder", fn := fun _ => fun
  | [d] => { results := [.lit (.bool false)], args := [d] }
  | _ => none }
def FnExactUrgentOrderWrongFalsely : Prop := fnExactUrgentOrderRow.holds Try.pinned (OpenSpec.ofChange fnExactUrgentOrderWrong)

/-- 'laws.FnExactLevelsOf': WHATEVER THE INPUT: true; the input reads as it did. -/
def fnExactLevelsOfSpec : ChangeSpec := { name := "fnExactLevelsOf", fn := fun _ => fun
  | [d] => { results := [.lit (.bool true)], args := [d] }
  | _ => none }
def fnExactLevelsOfRow : OpenClaim := { program := "ytdcndoincahhiab", sum := "247002061d7a3169f8871687ce67c0a437538d4ec637f6434b8c1a2e71726854", func := "loop.example/g00932/laws.FnExactLevelsOf", spec := "fnExactLevelsOf", unfollowed := true, recurses := true, apart := false }
def FnExactLevelsOfSaid : Prop := fnExactLevelsOfRow.holds Try.pinned (OpenSpec.ofChange fnExactLevelsOfSpec)

/-- ITS FALSE NEIGHBOUR: 'it returns false'. Refute it at one input. -/
def fnExactLevelsOfWrong : ChangeSpec := { name := "fnExactLevelsOf", fn := fun _ => fun
  | [d] => { results := [.lit (.bool false)], args := [d] }
  | _ => none }
def FnExactLevelsOfWrongFalsely : Prop := fnExactLevelsOfRow.holds Try.pinned (OpenSpec.ofChange fnExactLevelsOfWrong)

/-- 'laws.FnExactLiftRadii': WHATEVER THE INPUT: true; the input reads as it did. -/
def fnExactLiftRadiiSpec : ChangeSpec := { name := "fnExactLiftRadii", fn := fun _ => fun
  | [d1, d2] => { results := [.lit (.bool true)], args := [d1, d2] }
  | _ => none }
def fnExactLiftRadiiRow : OpenClaim := { program := "ytdcndoincahhiab", sum := "247002061d7a3169f8871687ce67c0a437538d4ec637f6434b8c1a2e71726854", func := "loop.example/g00932/laws.FnExactLiftRadii", spec := "fnExactLiftRadii", unfollowed := true, recurses := true, apart := false }
def FnExactLiftRadiiSaid : Prop := fnExactLiftRadiiRow.holds Try.pinned (OpenSpec.ofChange fnExactLiftRadiiSpec)

/-- ITS FALSE NEIGHBOUR: 'it returns false'. Refute it at one input. -/
def fnExactLiftRadiiWrong : ChangeSpec := { name := "fnExactLiftRadii", fn := fun _ => fun
  | [d1, d2] => { results := [.lit (.bool false)], args := [d1, d2] }
  | _ => none }
def FnExactLiftRadiiWrongFalsely : Prop := fnExactLiftRadiiRow.holds Try.pinned (OpenSpec.ofChange fnExactLiftRadiiWrong)

/-- 'laws.FnExactLiftMargin': WHATEVER THE INPUT: true; the input reads as it did. -/
def fnExactLiftMarginSpec : ChangeSpec := { name := "fnExactLiftMargin", fn := fun _ => fun
  | [d1, d2] => { results := [.lit (.bool true)], args := [d1, d2] }
  | _ => none }
def fnExactLiftMarginRow : OpenClaim := { program := "ytdcndoincahhiab", sum := "247002061d7a3169f8871687ce67c0a437538d4ec637f6434b8c1a2e71726854", func := "loop.example/g00932/laws.FnExactLiftMargin", spec := "fnExactLiftMargin", unfollowed := true, recurses := true, apart := false }
def FnExactLiftMarginSaid : Prop := fnExactLiftMarginRow.holds Try.pinned (OpenSpec.ofChange fnExactLiftMarginSpec)

/-- ITS FALSE NEIGHBOUR: 'it returns false'. Refute it at one input. -/
def fnExactLiftMarginWrong : ChangeSpec := { name := "fnExactLiftMargin", fn := fun _ => fun
  | [d1, d2] => { results := [.lit (.bool false)], args := [d1, d2] }
  | _ => none }
def FnExactLiftMarginWrongFalsely : Prop := fnExactLiftMarginRow.holds Try.pinned (OpenSpec.ofChange fnExactLiftMarginWrong)

/-- 'laws.FnExactCanLift': WHATEVER THE INPUT: true; the input reads as it did. -/
def fnExactCanLiftSpec : ChangeSpec := { name := "fnExactCanLift", fn := fun _ => fun
  | [d1, d2] => { results := [.lit (.bool true)], args := [d1, d2] }
  | _ => none }
def fnExactCanLiftRow : OpenClaim := { program := "ytdcndoincahhiab", sum := "247002061d7a3169f8871687ce67c0a437538d4ec637f6434b8c1a2e71726854", func := "loop.example/g00932/laws.FnExactCanLift", spec := "fnExactCanLift", unfollowed := true, recurses := true, apart := false }
def FnExactCanLiftSaid : Prop := fnExactCanLiftRow.holds Try.pinned (OpenSpec.ofChange fnExactCanLiftSpec)

/-- ITS FALSE NEIGHBOUR: 'it returns false'. Refute it at one input. -/
def fnExactCanLiftWrong : ChangeSpec := { name := "fnExactCanLift", fn := fun _ => fun
  | [d1, d2] => { results := [.lit (.bool false)], args := [d1, d2] }
  | _ => none }
def FnExactCanLiftWrongFalsely : Prop := fnExactCanLiftRow.holds Try.pinned (OpenSpec.ofChange fnExactCanLiftWrong)

/-- 'laws.FnExactUsedPercent': WHATEVER THE INPUT: true; the input reads as it did. -/
def fnExactUsedPercentSpec : ChangeSpec := { name := "fnExactUsedPercent", fn := fun _ => fun
  | [d1, d2] => { results := [.lit (.bool true)], args := [d1, d2] }
  | _ => none }
def fnExactUsedPercentRow : OpenClaim := { program := "ytdcndoincahhiab", sum := "247002061d7a3169f8871687ce67c0a437538d4ec637f6434b8c1a2e71726854", func := "loop.example/g00932/laws.FnExactUsedPercent", spec := "fnExactUsedPercent", unfollowed := true, recurses := true, apart := false }
def FnExactUsedPercentSaid : Prop := fnExactUsedPercentRow.holds Try.pinned (OpenSpec.ofChange fnExactUsedPercentSpec)

/-- ITS FALSE NEIGHBOUR: 'it returns false'. Refute it at one input. -/
def fnExactUsedPercentWrong : ChangeSpec := { name := "fnExactUsedPercent", fn := fun _ => fun
  | [d1, d2] => { results := [.lit (.bool false)], args := [d1, d2] }
  | _ => none }
def FnExactUsedPercentWrongFalsely : Prop := fnExactUsedPercentRow.holds Try.pinned (OpenSpec.ofChange fnExactUsedPercentWrong)

/- THE SECOND FORM. 'bulk': how many values and letters a reading holds, each counted each time it is reached (what is shared counts as often as it is met; a slice's spare places count too). A statement '..UptoSaid' is the law's where the arguments, and the package variables that the reading takes, are together of bulk at most 1048576: NARROWER than '..Said'. Prove '..Said' where nothing that the law and all that it calls make is longer than what came in: it says more and counts as full. Else prove '..UptoSaid'. A law counts once. -/
mutual
def uptoBulk {H : Type} : DataW H → Nat
  | .lit (.string bytes) => bytes.length + 1
  | .lit _ => 1
  | .nil => 1
  | .ptr d => uptoBulk d + 1
  | .slice elems spare => uptoBulkAll elems + uptoBulkAll spare + 1
  | .agg parts => uptoBulkAll parts + 1
  | .iface _ d => uptoBulk d + 1
  | .map entries => uptoBulkEntries entries + 1
  | .held _ => 1
def uptoBulkAll {H : Type} : List (DataW H) → Nat
  | [] => 0
  | d :: r => uptoBulk d + uptoBulkAll r
def uptoBulkEntries {H : Type} : List (Lit × DataW H) → Nat
  | [] => 0
  | x :: r => uptoBulkEntry x + uptoBulkEntries r
def uptoBulkEntry {H : Type} : Lit × DataW H → Nat
  | (.string bytes, d) => bytes.length + uptoBulk d + 1
  | (_, d) => uptoBulk d + 1
 end
def uptoSmall : (H : Type) → List (DataW H) → Bool := fun _ ds => decide (uptoBulkAll ds ≤ 1048576)
def OpenSpec.upto (s : _root_.Go.ChangeSpec) : _root_.Go.OpenSpec := { _root_.Go.OpenSpec.ofChange s with cond := some uptoSmall }

/-- 'laws.FnExactUrgentOrder', WHERE WHAT IT READS IS OF BULK AT MOST 1048576: true; the input reads as it did. -/
def fnExactUrgentOrderUptoRow : OpenClaim := { program := "ytdcndoincahhiab", sum := "247002061d7a3169f8871687ce67c0a437538d4ec637f6434b8c1a2e71726854", func := "loop.example/g00932/laws.FnExactUrgentOrder", spec := "fnExactUrgentOrder", unfollowed := true, recurses := true, apart := false, narrowed := true }
def FnExactUrgentOrderUptoSaid : Prop := fnExactUrgentOrderUptoRow.holds Try.pinned (OpenSpec.upto fnExactUrgentOrderSpec)

/-- 'laws.FnExactLevelsOf', WHERE WHAT IT READS IS OF BULK AT MOST 1048576: true; the input reads as it did. -/
def fnExactLevelsOfUptoRow : OpenClaim := { program := "ytdcndoincahhiab", sum := "247002061d7a3169f8871687ce67c0a437538d4ec637f6434b8c1a2e71726854", func := "loop.example/g00932/laws.FnExactLevelsOf", spec := "fnExactLevelsOf", unfollowed := true, recurses := true, apart := false, narrowed := true }
def FnExactLevelsOfUptoSaid : Prop := fnExactLevelsOfUptoRow.holds Try.pinned (OpenSpec.upto fnExactLevelsOfSpec)

/-- 'laws.FnExactLiftRadii', WHERE WHAT IT READS IS OF BULK AT MOST 1048576: true; the input reads as it did. -/
def fnExactLiftRadiiUptoRow : OpenClaim := { program := "ytdcndoincahhiab", sum := "247002061d7a3169f8871687ce67c0a437538d4ec637f6434b8c1a2e71726854", func := "loop.example/g00932/laws.FnExactLiftRadii", spec := "fnExactLiftRadii", unfollowed := true, recurses := true, apart := false, narrowed := true }
def FnExactLiftRadiiUptoSaid : Prop := fnExactLiftRadiiUptoRow.holds Try.pinned (OpenSpec.upto fnExactLiftRadiiSpec)

/-- 'laws.FnExactLiftMargin', WHERE WHAT IT READS IS OF BULK AT MOST 1048576: true; the input reads as it did. -/
def fnExactLiftMarginUptoRow : OpenClaim := { program := "ytdcndoincahhiab", sum := "247002061d7a3169f8871687ce67c0a437538d4ec637f6434b8c1a2e71726854", func := "loop.example/g00932/laws.FnExactLiftMargin", spec := "fnExactLiftMargin", unfollowed := true, recurses := true, apart := false, narrowed := true }
def FnExactLiftMarginUptoSaid : Prop := fnExactLiftMarginUptoRow.holds Try.pinned (OpenSpec.upto fnExactLiftMarginSpec)

/-- 'laws.FnExactCanLift', WHERE WHAT IT READS IS OF BULK AT MOST 1048576: true; the input reads as it did. -/
def fnExactCanLiftUptoRow : OpenClaim := { program := "ytdcndoincahhiab", sum := "247002061d7a3169f8871687ce67c0a437538d4ec637f6434b8c1a2e71726854", func := "loop.example/g00932/laws.FnExactCanLift", spec := "fnExactCanLift", unfollowed := true, recurses := true, apart := false, narrowed := true }
def FnExactCanLiftUptoSaid : Prop := fnExactCanLiftUptoRow.holds Try.pinned (OpenSpec.upto fnExactCanLiftSpec)

/-- 'laws.FnExactUsedPercent', WHERE WHAT IT READS IS OF BULK AT MOST 1048576: true; the input reads as it did. -/
def fnExactUsedPercentUptoRow : OpenClaim := { program := "ytdcndoincahhiab", sum := "247002061d7a3169f8871687ce67c0a437538d4ec637f6434b8c1a2e71726854", func := "loop.example/g00932/laws.FnExactUsedPercent", spec := "fnExactUsedPercent", unfollowed := true, recurses := true, apart := false, narrowed := true }
def FnExactUsedPercentUptoSaid : Prop := fnExactUsedPercentUptoRow.holds Try.pinned (OpenSpec.upto fnExactUsedPercentSpec)

end Rows
end Go.Proofs.Ytdcndoincahhiab
