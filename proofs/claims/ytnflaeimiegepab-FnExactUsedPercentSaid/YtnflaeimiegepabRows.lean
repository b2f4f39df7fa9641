/-
  No cell of these rows narrows 'for every input' (looked for: loops, veiled, ifaces, maps, wideKeys, modest, calm, conditions, laid).
  DERIVED. THE GIVEN ROWS OF THIS SEAT. 6 by the template 'for every input the law returns true; each argument reads behind the call as it read before'; 0 by the template 'total and deterministic' (their statements: YtnflaeimiegepabTotals.lean).
  GIVEN WITH THE SEED: the statements are not yours to turn. If you find one false, say at which input.
  Laid BY PROGRAM, IN A SANDBOX (cutbox-rows.mjs): the forced cells as the released guide's own fill.sh prints them over the translation 3323267b5f6e75cf… (all of the seat's roots in one cut). By AI agents, Wed Nov 11 2026. No macro, syntax, notation, axiom, sorry.
-/
import Derived.Test.YtnflaeimiegepabChecked
import GoSem.Claim
import GoSem.ClaimJoined
import GoSem.ClaimMapViews
import Derived.JoinedTies
import Derived.KernelRfl
namespace Go.Proofs.Ytnflaeimiegepab
/- THE CELL 'sum', in the pinned program and in every row, IS THE sha256 OF THE DUMP (.gsa) THAT YtnflaeimiegepabProg.lean LOADS. Nothing in Lean hashes anything: it is a label: what it is worth is what the hold of that sum in a sandbox is worth. -/
noncomputable def Try.pinned : Pinned := { name := "ytnflaeimiegepab", sum := "3323267b5f6e75cf5da9b8506e99c7050b5c2e3f97e2763bfb86177a740412fe", checked := Try.checked }
namespace Rows
def none {H : Type} : Left H := { results := [], args := [] }

/-- 'laws.FnExactCanLift': WHATEVER THE INPUT: true; the input reads as it did. -/
def fnExactCanLiftSpec : ChangeSpec := { name := "fnExactCanLift", fn := fun _ => fun
  | [d1, d2] => { results := [.lit (.bool true)], args := [d1, d2] }
  | _ => none }
def fnExactCanLiftRow : OpenClaim := { program := "ytnflaeimiegepab", sum := "3323267b5f6e75cf5da9b8506e99c7050b5c2e3f97e2763bfb86177a740412fe", func := "loop.example/g00932/laws.FnExactCanLift", spec := "fnExactCanLift", unfollowed := true, recurses := true, apart := false }
def FnExactCanLiftSaid : Prop := fnExactCanLiftRow.holds Try.pinned (OpenSpec.ofChange fnExactCanLiftSpec)

/-- ITS FALSE NEIGHBOUR: 'it returns false'. Refute it at one input. -/
def fnExactCanLiftWrong : ChangeSpec := { name := "fnExactCanLift", fn := fun _ => fun
  | [d1, d2] => { results := [.lit (.bool false)], args := [d1, d2] }
  | _ => none }
def FnExactCanLiftWrongFalsely : Prop := fnExactCanLiftRow.holds Try.pinned (OpenSpec.ofChange fnExactCanLiftWrong)

/-- 'laws.FnExactUsedPercent': WHATEVER THE INPUT: true; the input reads as it did. -/
def fnExactUsedPercentSpec : ChangeSpec := { name := "fnExactUsedPercent", fn := fun _ => fun
  | [d1, d2] => { results := [.lit (.bool true)], args := [d1, d2] }
  | _ => none }
def fnExactUsedPercentRow : OpenClaim := { program := "ytnflaeimiegepab", sum := "3323267b5f6e75cf5da9b8506e99c7050b5c2e3f97e2763bfb86177a740412fe", func := "loop.example/g00932/laws.FnExactUsedPercent", spec := "fnExactUsedPercent", unfollowed := true, recurses := true, apart := false }
def FnExactUsedPercentSaid : Prop := fnExactUsedPercentRow.holds Try.pinned (OpenSpec.ofChange fnExactUsedPercentSpec)

/-- ITS FALSE NEIGHBOUR: 'it returns false'. Refute it at one input. -/
def fnExactUsedPercentWrong : ChangeSpec := { name := "fnExactUsedPercent", fn := fun _ => fun
  | [d1, d2] => { results := [.lit (.bool false)], args := [d1, d2] }
  | _ => none }
def FnExactUsedPercentWrongFalsely : Prop := fnExactUsedPercentRow.holds Try.pinned (OpenSpec.ofChange fnExactUsedPercentWrong)

/-- 'laws.FnExactValidSpeeds': WHATEVER THE INPUT: true; the input reads as it did. -/
def fnExactValidSpeedsSpec : ChangeSpec := { name := "fnExactValidSpeeds", fn := fun _ => fun
  | [d] => { results := [.lit (.bool true)], args := [d] }
  | _ => none }
def fnExactValidSpeedsRow : OpenClaim := { program := "ytnflaeimiegepab", sum := "3323267b5f6e75cf5da9b8506e99c7050b5c2e3f97e2763bfb86177a740412fe", func := "loop.example/g00932/laws.FnExactValidSpeeds", spec := "fnExactValidSpeeds", unfollowed := true, recurses := true, apart := false }
def FnExactValidSpeedsSaid : Prop := fnExactValidSpeedsRow.holds Try.pinned (OpenSpec.ofChange fnExactValidSpeedsSpec)

/-- ITS FALSE NEIGHBOUR: 'it returns false'. Refute it at one input. -/
def fnExactValidSpeedsWrong : ChangeSpec := { name := "fnExactValidSpeeds", fn := fun _ => fun
  | [d] => { results := [.lit (.bool false)], args := [d] }
  | _ => none }
def FnExactValidSpeedsWrongFalsely : Prop := fnExactValidSpeedsRow.holds Try.pinned (OpenSpec.ofChange fnExactValidSpeedsWrong)

/-- 'laws.FnExactSlewTime': WHATEVER THE INPUT: true; the input reads as it did. -/
def fnExactSlewTimeSpec : ChangeSpec := { name := "fnExactSlewTime", fn := fun _ => fun
  | [d1, d2, d3] => { results := [.lit (.bool true)], args := [d1, d2, d3] }
  | _ => none }
def fnExactSlewTimeRow : OpenClaim := { program := "ytnflaeimiegepab", sum := "3323267b5f6e75cf5da9b8506e99c7050b5c2e3f97e2763bfb86177a740412fe", func := "loop.example/g00932/laws.FnExactSlewTime", spec := "fnExactSlewTime", unfollowed := true, recurses := true, apart := false }
def FnExactSlewTimeSaid : Prop := fnExactSlewTimeRow.holds Try.pinned (OpenSpec.ofChange fnExactSlewTimeSpec)

/-- ITS FALSE NEIGHBOUR: 'it returns false'. Refute it at one input. -/
def fnExactSlewTimeWrong : ChangeSpec := { name := "fnExactSlewTime", fn := fun _ => fun
  | [d1, d2, d3] => { results := [.lit (.bool false)], args := [d1, d2, d3] }
  | _ => none }
def FnExactSlewTimeWrongFalsely : Prop := fnExactSlewTimeRow.holds Try.pinned (OpenSpec.ofChange fnExactSlewTimeWrong)

/-- 'laws.FnExactTrolleyTime': WHATEVER THE INPUT: true; the input reads as it did. -/
def fnExactTrolleyTimeSpec : ChangeSpec := { name := "fnExactTrolleyTime", fn := fun _ => fun
  | [d1, d2, d3] => { results := [.lit (.bool true)], args := [d1, d2, d3] }
  | _ => none }
def fnExactTrolleyTimeRow : OpenClaim := { program := "ytnflaeimiegepab", sum := "3323267b5f6e75cf5da9b8506e99c7050b5c2e3f97e2763bfb86177a740412fe", func := "loop.example/g00932/laws.FnExactTrolleyTime", spec := "fnExactTrolleyTime", unfollowed := true, recurses := true, apart := false }
def FnExactTrolleyTimeSaid : Prop := fnExactTrolleyTimeRow.holds Try.pinned (OpenSpec.ofChange fnExactTrolleyTimeSpec)

/-- ITS FALSE NEIGHBOUR: 'it returns false'. Refute it at one input. -/
def fnExactTrolleyTimeWrong : ChangeSpec := { name := "fnExactTrolleyTime", fn := fun _ => fun
  | [d1, d2, d3] => { results := [.lit (.bool false)], args := [d1, d2, d3] }
  | _ => none }
def FnExactTrolleyTimeWrongFalsely : Prop := fnExactTrolleyTimeRow.holds Try.pinned (OpenSpec.ofChange fnExactTrolleyTimeWrong)

/-- 'laws.FnExactHoistTime': WHATEVER THE INPUT: true; the input reads as it did. -/
def fnExactHoistTimeSpec : ChangeSpec := { name := "fnExactHoistTime", fn := fun _ => fun
  | [d1, d2] => { results := [.lit (.bool true)], args := [d1, d2] }
  | _ => none }
def fnExactHoistTimeRow : OpenClaim := { program := "ytnflaeimiegepab", sum := "3323267b5f6e75cf5da9b8506e99c7050b5c2e3f97e2763bfb86177a740412fe", func := "loop.example/g00932/laws.FnExactHoistTime", spec := "fnExactHoistTime", unfollowed := true, recurses := true, apart := false }
def FnExactHoistTimeSaid : Prop := fnExactHoistTimeRow.holds Try.pinned (OpenSpec.ofChange fnExactHoistTimeSpec)

/-- ITS FALSE NEIGHBOUR: 'it returns false'. Refute it at one input. -/
def fnExactHoistTimeWrong : ChangeSpec := { name := "fnExactHoistTime", fn := fun _ => fun
  | [d1, d2] => { results := [.lit (.bool false)], args := [d1, d2] }
  | _ => none }
def FnExactHoistTimeWrongFalsely : Prop := fnExactHoistTimeRow.holds Try.pinned (OpenSpec.ofChange fnExactHoistTimeWrong)

/- THE SECOND FORM. 'bulk': how many values and letters a reading holds, each counted each time it is reached (what is shared counts as often as it is met; a slice's spare places count too). A statement '..UptoSaid' is the law's where the arguments, and the package variables that the reading takes, are together of bulk at most 1048576: NARROWER than '..Said'. Prove '..Said' where nothing that the law and all that it calls make is longer than what came in: it says more and counts as full. Else prove '..UptoSaid'. A law counts once. -/
mutual
def uptoBulk {H : Type} : DataW H → Nat
  | .lit (.string bytes) => bytes.length + 1
  | .lit _ => 1
  | .nil => 1
  | .ptr d => uptoBulk d + 1
  | .slice elems spare => uptoBulkAll elems + uptoBulkAll spare + 1
  | .agg parts => uptoBulkAll parts + 1
  | .iface _ d => uptoBulk d + 1
  | .map entries => uptoBulkEntries entries + 1
  | .held _ => 1
def uptoBulkAll {H : Type} : List (DataW H) → Nat
  | [] => 0
  | d :: r => uptoBulk d + uptoBulkAll r
def uptoBulkEntries {H : Type} : List (Lit × DataW H) → Nat
  | [] => 0
  | x :: r => uptoBulkEntry x + uptoBulkEntries r
def uptoBulkEntry {H : Type} : Lit × DataW H → Nat
  | (.string bytes, d) => bytes.length + uptoBulk d + 1
  | (_, d) => uptoBulk d + 1
 end
def uptoSmall : (H : Type) → List (DataW H) → Bool := fun _ ds => decide (uptoBulkAll ds ≤ 1048576)
def OpenSpec.upto (s : _root_.Go.ChangeSpec) : _root_.Go.OpenSpec := { _root_.Go.OpenSpec.ofChange s with cond := some uptoSmall }

/-- 'laws.FnExactCanLift', WHERE WHAT IT READS IS OF BULK AT MOST 1048576: true; the input reads as it did. -/
def fnExactCanLiftUptoRow : OpenClaim := { program := "ytnflaeimiegepab", sum := "3323267b5f6e75cf5da9b8506e99c7050b5c2e3f97e2763bfb86177a740412fe", func := "loop.example/g00932/laws.FnExactCanLift", spec := "fnExactCanLift", unfollowed := true, recurses := true, apart := false, narrowed := true }
def FnExactCanLiftUptoSaid : Prop := fnExactCanLiftUptoRow.holds Try.pinned (OpenSpec.upto fnExactCanLiftSpec)

/-- 'laws.FnExactUsedPercent', WHERE WHAT IT READS IS OF BULK AT MOST 1048576: true; the input reads as it did. -/
def fnExactUsedPercentUptoRow : OpenClaim := { program := "ytnflaeimiegepab", sum := "3323267b5f6e75cf5da9b8506e99c7050b5c2e3f97e2763bfb86177a740412fe", func := "loop.example/g00932/laws.FnExactUsedPercent", spec := "fnExactUsedPercent", unfollowed := true, recurses := true, apart := false, narrowed := true }
def FnExactUsedPercentUptoSaid : Prop := fnExactUsedPercentUptoRow.holds Try.pinned (OpenSpec.upto fnExactUsedPercentSpec)

/-- 'laws.FnExactValidSpeeds', WHERE WHAT IT READS IS OF BULK AT MOST 1048576: true; the input reads as it did. -/
def fnExactValidSpeedsUptoRow : OpenClaim := { program := "ytnflaeimiegepab", sum := "3323267b5f6e75cf5da9b8506e99c7050b5c2e3f97e2763bfb86177a740412fe", func := "loop.example/g00932/laws.FnExactValidSpeeds", spec := "fnExactValidSpeeds", unfollowed := true, recurses := true, apart := false, narrowed := true }
def FnExactValidSpeedsUptoSaid : Prop := fnExactValidSpeedsUptoRow.holds Try.pinned (OpenSpec.upto fnExactValidSpeedsSpec)

/-- 'laws.FnExactSlewTime', WHERE WHAT IT READS IS OF BULK AT MOST 1048576: true; the input reads as it did. -/
def fnExactSlewTimeUptoRow : OpenClaim := { program := "ytnflaeimiegepab", sum := "3323267b5f6e75cf5da9b8506e99c7050b5c2e3f97e2763bfb86177a740412fe", func := "loop.example/g00932/laws.FnExactSlewTime", spec := "fnExactSlewTime", unfollowed := true, recurses := true, apart := false, narrowed := true }
def FnExactSlewTimeUptoSaid : Prop := fnExactSlewTimeUptoRow.holds Try.pinned (OpenSpec.upto fnExactSlewTimeSpec)

/-- 'laws.FnExactTrolleyTime', WHERE WHAT IT READS IS OF BULK AT MOST 1048576: true; the input reads as it did. -/
def fnExactTrolleyTimeUptoRow : OpenClaim := { program := "ytnflaeimiegepab", sum := "3323267b5f6e75cf5da9b8506e99c7050b5c2e3f97e2763bfb86177a740412fe", func := "loop.example/g00932/laws.FnExactTrolleyTime", spec := "fnExactTrolleyTime", unfollowed := true, recurses := true, apart := false, narrowed := true }
def FnExactTrolleyTimeUptoSaid : Prop := fnExactTrolleyTimeUptoRow.holds Try.pinned (OpenSpec.upto fnExactTrolleyTimeSpec)

/-- 'laws.FnExactHoistTime', WHERE WHAT IT READS IS OF BULK AT MOST 1048576: true; the input reads as it did. -/
def fnExactHoistTimeUptoRow : OpenClaim := { program := "ytnflaeimiegepab", sum := "3323267b5f6e75cf5da9b8506e99c7050b5c2e3f97e2763bfb86177a740412fe", func := "loop.example/g00932/laws.FnExactHoistTime", spec := "fnExactHoistTime", unfollowed := true, recurses := true, apart := false, narrowed := true }
def FnExactHoistTimeUptoSaid : Prop := fnExactHoistTimeUptoRow.holds Try.pinned (OpenSpec.upto fnExactHoistTimeSpec)

end Rows
end Go.Proofs.Ytnflaeimiegepab
