/-
  No cell of these rows narrows 'for every input' (looked for: loops, veiled, ifaces, maps, wideKeys, modest, calm, conditions, laid).
  DERIVED. THE GIVEN ROWS OF THIS SEAT. 5 by the template 'for every input the law returns true; each argument reads behind the call as it read before'; 0 by the template 'total and deterministic' (their statements: YtnflaeimiegepaaTotals.lean).
  GIVEN WITH THE SEED: the statements are not yours to turn. If you find one false, say at which input.
  Laid BY PROGRAM, IN A SANDBOX (cutbox-rows.mjs): the forced cells as the released guide's own fill.sh prints them over the translation 6ee95dca0e1fddb4… (all of the seat's roots in one cut). By AI agents, Wed Nov 11 2026. No macro, syntax, notation, axiom, sorry.
-/
import Derived.Test.YtnflaeimiegepaaChecked
import GoSem.Claim
import GoSem.ClaimJoined
import GoSem.ClaimMapViews
import Derived.JoinedTies
import Derived.KernelRfl
namespace Go.Proofs.Ytnflaeimiegepaa
/- THE CELL 'sum', in the pinned program and in every row, IS THE sha256 OF THE DUMP (.gsa) THAT YtnflaeimiegepaaProg.lean LOADS. Nothing in Lean hashes anything: it is a label: what it is worth is what the hold of that sum in a sandbox is worth. -/
noncomputable def Try.pinned : Pinned := { name := "ytnflaeimiegepaa", sum := "6ee95dca0e1fddb4a6b387485f76f92738b312d86fab40d71462cb8c636d3711", checked := Try.checked }
namespace Rows
def none {H : Type} : Left H := { results := [], args := [] }

/-- 'laws.FnExactAddLift': WHATEVER THE INPUT: true; the input reads as it did. -/
def fnExactAddLiftSpec : ChangeSpec := { name := "fnExactAddLift", fn := fun _ => fun
  | [d1, d2] => { results := [.lit (.bool true)], args := [d1, d2] }
  | _ => none }
def fnExactAddLiftRow : OpenClaim := { program := "ytnflaeimiegepaa", sum := "6ee95dca0e1fddb4a6b387485f76f92738b312d86fab40d71462cb8c636d3711", func := "loop.example/g00932/laws.FnExactAddLift", spec := "fnExactAddLift", unfollowed := true, recurses := true, apart := false }
def FnExactAddLiftSaid : Prop := fnExactAddLiftRow.holds Try.pinned (OpenSpec.ofChange fnExactAddLiftSpec)

/-- ITS FALSE NEIGHBOUR: 'it returns false'. Refute it at one input. -/
def fnExactAddLiftWrong : ChangeSpec := { name := "fnExactAddLift", fn := fun _ => fun
  | [d1, d2] => { results := [.lit (.bool false)], args := [d1, d2] }
  | _ => none }
def FnExactAddLiftWrongFalsely : Prop := fnExactAddLiftRow.holds Try.pinned (OpenSpec.ofChange fnExactAddLiftWrong)

/-- 'laws.FnExactDropLift': WHATEVER THE INPUT: true; the input reads as it did. -/
def fnExactDropLiftSpec : ChangeSpec := { name := "fnExactDropLift", fn := fun _ => fun
  | [d1, d2] => { results := [.lit (.bool true)], args := [d1, d2] }
  | _ => none }
def fnExactDropLiftRow : OpenClaim := { program := "ytnflaeimiegepaa", sum := "6ee95dca0e1fddb4a6b387485f76f92738b312d86fab40d71462cb8c636d3711", func := "loop.example/g00932/laws.FnExactDropLift", spec := "fnExactDropLift", unfollowed := true, recurses := true, apart := false }
def FnExactDropLiftSaid : Prop := fnExactDropLiftRow.holds Try.pinned (OpenSpec.ofChange fnExactDropLiftSpec)

/-- ITS FALSE NEIGHBOUR: 'it returns false'. Refute it at one input. -/
def fnExactDropLiftWrong : ChangeSpec := { name := "fnExactDropLift", fn := fun _ => fun
  | [d1, d2] => { results := [.lit (.bool false)], args := [d1, d2] }
  | _ => none }
def FnExactDropLiftWrongFalsely : Prop := fnExactDropLiftRow.holds Try.pinned (OpenSpec.ofChange fnExactDropLiftWrong)

/-- 'laws.FnExactCountLiftOrders': WHATEVER THE INPUT: true; the input reads as it did. -/
def fnExactCountLiftOrdersSpec : ChangeSpec := { name := "fnExactCountLiftOrders", fn := fun _ => fun
  | [d] => { results := [.lit (.bool true)], args := [d] }
  | _ => none }
def fnExactCountLiftOrdersRow : OpenClaim := { program := "ytnflaeimiegepaa", sum := "6ee95dca0e1fddb4a6b387485f76f92738b312d86fab40d71462cb8c636d3711", func := "loop.example/g00932/laws.FnExactCountLiftOrders", spec := "fnExactCountLiftOrders", unfollowed := true, recurses := true, apart := false }
def FnExactCountLiftOrdersSaid : Prop := fnExactCountLiftOrdersRow.holds Try.pinned (OpenSpec.ofChange fnExactCountLiftOrdersSpec)

/-- ITS FALSE NEIGHBOUR: 'it returns false'. Refute it at one input. -/
def fnExactCountLiftOrdersWrong : ChangeSpec := { name := "fnExactCountLiftOrders", fn := fun _ => fun
  | [d] => { results := [.lit (.bool false)], args := [d] }
  | _ => none }
def FnExactCountLiftOrdersWrongFalsely : Prop := fnExactCountLiftOrdersRow.holds Try.pinned (OpenSpec.ofChange fnExactCountLiftOrdersWrong)

/-- 'laws.FnExactLiftRadii': WHATEVER THE INPUT: true; the input reads as it did. -/
def fnExactLiftRadiiSpec : ChangeSpec := { name := "fnExactLiftRadii", fn := fun _ => fun
  | [d1, d2] => { results := [.lit (.bool true)], args := [d1, d2] }
  | _ => none }
def fnExactLiftRadiiRow : OpenClaim := { program := "ytnflaeimiegepaa", sum := "6ee95dca0e1fddb4a6b387485f76f92738b312d86fab40d71462cb8c636d3711", func := "loop.example/g00932/laws.FnExactLiftRadii", spec := "fnExactLiftRadii", unfollowed := true, recurses := true, apart := false }
def FnExactLiftRadiiSaid : Prop := fnExactLiftRadiiRow.holds Try.pinned (OpenSpec.ofChange fnExactLiftRadiiSpec)

/-- ITS FALSE NEIGHBOUR: 'it returns false'. Refute it at one input. -/
def fnExactLiftRadiiWrong : ChangeSpec := { name := "fnExactLiftRadii", fn := fun _ => fun
  | [d1, d2] => { results := [.lit (.bool false)], args := [d1, d2] }
  | _ => none }
def FnExactLiftRadiiWrongFalsely : Prop := fnExactLiftRadiiRow.holds Try.pinned (OpenSpec.ofChange fnExactLiftRadiiWrong)

/-- 'laws.FnExactLiftMargin': WHATEVER THE INPUT: true; the input reads as it did. -/
def fnExactLiftMarginSpec : ChangeSpec := { name := "fnExactLiftMargin", fn := fun _ => fun
  | [d1, d2] => { results := [.lit (.bool true)], args := [d1, d2] }
  | _ => none }
def fnExactLiftMarginRow : OpenClaim := { program := "ytnflaeimiegepaa", sum := "6ee95dca0e1fddb4a6b387485f76f92738b312d86fab40d71462cb8c636d3711", func := "loop.example/g00932/laws.FnExactLiftMargin", spec := "fnExactLiftMargin", unfollowed := true, recurses := true, apart := false }
def FnExactLiftMarginSaid : Prop := fnExactLiftMarginRow.holds Try.pinned (OpenSpec.ofChange fnExactLiftMarginSpec)

/-- ITS FALSE NEIGHBOUR: 'it returns false'. Refute it at one input. -/
def fnExactLiftMarginWrong : ChangeSpec := { name := "fnExactLiftMargin", fn := fun _ => fun
  | [d1, d2] => { results := [.lit (.bool false)], args := [d1, d2] }
  | _ => none }
def FnExactLiftMarginWrongFalsely : Prop := fnExactLiftMarginRow.holds Try.pinned (OpenSpec.ofChange fnExactLiftMarginWrong)

/- THE SECOND FORM. 'bulk': how many values and letters a reading holds, each counted each time it is reached (what is shared counts as often as it is met; a slice's spare places count too). A statement '..UptoSaid' is the law's where the arguments, and the package variables that the reading takes, are together of bulk at most 1048576: NARROWER than '..Said'. Prove '..Said' where nothing that the law and all that it calls make is longer than what came in: it says more and counts as full. Else prove '..UptoSaid'. A law counts once. -/
mutual
def uptoBulk {H : Type} : DataW H → Nat
  | .lit (.string bytes) => bytes.length + 1
  | .lit _ => 1
  | .nil => 1
  | .ptr d => uptoBulk d + 1
  | .slice elems spare => uptoBulkAll elems + uptoBulkAll spare + 1
  | .agg parts => uptoBulkAll parts + 1
  | .iface _ d => uptoBulk d + 1
  | .map entries => uptoBulkEntries entries + 1
  | .held _ => 1
def uptoBulkAll {H : Type} : List (DataW H) → Nat
  | [] => 0
  | d :: r => uptoBulk d + uptoBulkAll r
def uptoBulkEntries {H : Type} : List (Lit × DataW H) → Nat
  | [] => 0
  | x :: r => uptoBulkEntry x + uptoBulkEntries r
def uptoBulkEntry {H : Type} : Lit × DataW H → Nat
  | (.string bytes, d) => bytes.length + uptoBulk d + 1
  | (_, d) => uptoBulk d + 1
 end
def uptoSmall : (H : Type) → List (DataW H) → Bool := fun _ ds => decide (uptoBulkAll ds ≤ 1048576)
def OpenSpec.upto (s : _root_.Go.ChangeSpec) : _root_.Go.OpenSpec := { _root_.Go.OpenSpec.ofChange s with cond := some uptoSmall }

/-- 'laws.FnExactAddLift', WHERE WHAT IT READS IS OF BULK AT MOST 1048576: true; the input reads as it did. -/
def fnExactAddLiftUptoRow : OpenClaim := { program := "ytnflaeimiegepaa", sum := "6ee95dca0e1fddb4a6b387485f76f92738b312d86fab40d71462cb8c636d3711", func := "loop.example/g00932/laws.FnExactAddLift", spec := "fnExactAddLift", unfollowed := true, recurses := true, apart := false, narrowed := true }
def FnExactAddLiftUptoSaid : Prop := fnExactAddLiftUptoRow.holds Try.pinned (OpenSpec.upto fnExactAddLiftSpec)

/-- 'laws.FnExactDropLift', WHERE WHAT IT READS IS OF BULK AT MOST 1048576: true; the input reads as it did. -/
def fnExactDropLiftUptoRow : OpenClaim := { program := "ytnflaeimiegepaa", sum := "6ee95dca0e1fddb4a6b387485f76f92738b312d86fab40d71462cb8c636d3711", func := "loop.example/g00932/laws.FnExactDropLift", spec := "fnExactDropLift", unfollowed := true, recurses := true, apart := false, narrowed := true }
def FnExactDropLiftUptoSaid : Prop := fnExactDropLiftUptoRow.holds Try.pinned (OpenSpec.upto fnExactDropLiftSpec)

/-- 'laws.FnExactCountLiftOrders', WHERE WHAT IT READS IS OF BULK AT MOST 1048576: true; the input reads as it did. -/
def fnExactCountLiftOrdersUptoRow : OpenClaim := { program := "ytnflaeimiegepaa", sum := "6ee95dca0e1fddb4a6b387485f76f92738b312d86fab40d71462cb8c636d3711", func := "loop.example/g00932/laws.FnExactCountLiftOrders", spec := "fnExactCountLiftOrders", unfollowed := true, recurses := true, apart := false, narrowed := true }
def FnExactCountLiftOrdersUptoSaid : Prop := fnExactCountLiftOrdersUptoRow.holds Try.pinned (OpenSpec.upto fnExactCountLiftOrdersSpec)

/-- 'laws.FnExactLiftRadii', WHERE WHAT IT READS IS OF BULK AT MOST 1048576: true; the input reads as it did. -/
def fnExactLiftRadiiUptoRow : OpenClaim := { program := "ytnflaeimiegepaa", sum := "6ee95dca0e1fddb4a6b387485f76f92738b312d86fab40d71462cb8c636d3711", func := "loop.example/g00932/laws.FnExactLiftRadii", spec := "fnExactLiftRadii", unfollowed := true, recurses := true, apart := false, narrowed := true }
def FnExactLiftRadiiUptoSaid : Prop := fnExactLiftRadiiUptoRow.holds Try.pinned (OpenSpec.upto fnExactLiftRadiiSpec)

/-- 'laws.FnExactLiftMargin', WHERE WHAT IT READS IS OF BULK AT MOST 1048576: true; the input reads as it did. -/
def fnExactLiftMarginUptoRow : OpenClaim := { program := "ytnflaeimiegepaa", sum := "6ee95dca0e1fddb4a6b387485f76f92738b312d86fab40d71462cb8c636d3711", func := "loop.example/g00932/laws.FnExactLiftMargin", spec := "fnExactLiftMargin", unfollowed := true, recurses := true, apart := false, narrowed := true }
def FnExactLiftMarginUptoSaid : Prop := fnExactLiftMarginUptoRow.holds Try.pinned (OpenSpec.upto fnExactLiftMarginSpec)

end Rows
end Go.Proofs.Ytnflaeimiegepaa
