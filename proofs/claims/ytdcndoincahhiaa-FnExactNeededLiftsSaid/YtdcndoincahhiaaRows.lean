/-
  No cell of these rows narrows 'for every input' (looked for: loops, veiled, ifaces, maps, wideKeys, modest, calm, conditions, laid).
  DERIVED. THE GIVEN ROWS OF THIS SEAT. 9 by the template 'for every input the law returns true; each argument reads behind the call as it read before'; 0 by the template 'total and deterministic' (their statements: YtdcndoincahhiaaTotals.lean).
  GIVEN WITH THE SEED: the statements are not yours to turn. If you find one false, say at which input.
  Laid BY PROGRAM, IN A SANDBOX (cutbox-rows.mjs): the forced cells as the released guide's own fill.sh prints them over the translation 6688adafe91b629e… (all of the seat's roots in one cut). By AI agents, Wed Nov 11 2026. No macro, syntax, notation, axiom, sorry.
-/
import Derived.Test.YtdcndoincahhiaaChecked
import GoSem.Claim
import GoSem.ClaimJoined
import GoSem.ClaimMapViews
import Derived.JoinedTies
import Derived.KernelRfl
namespace Go.Proofs.Ytdcndoincahhiaa
/- THE CELL 'sum', in the pinned program and in every row, IS THE sha256 OF THE DUMP (.gsa) THAT YtdcndoincahhiaaProg.lean LOADS. Nothing in Lean hashes anything: it is a label: what it is worth is what the hold of that sum in a sandbox is worth. -/
noncomputable def Try.pinned : Pinned := { name := "ytdcndoincahhiaa", sum := "6688adafe91b629ef317e405d3963721b1c9480743cc6f4b549c63c872aec28e", checked := Try.checked }
namespace Rows
def none {H : Type} : Left H := { results := [], args := [] }

/-- 'laws.FnLiftOrders': WHATEVER THE INPUT: true; the input reads as it did. -/
def fnLiftOrdersSpec : ChangeSpec := { name := "fnLiftOrders", fn := fun _ => fun
  | [d] => { results := [.lit (.bool true)], args := [d] }
  | _ => none }
def fnLiftOrdersRow : OpenClaim := { program := "ytdcndoincahhiaa", sum := "6688adafe91b629ef317e405d3963721b1c9480743cc6f4b549c63c872aec28e", func := "loop.example/g00932/laws.FnLiftOrders", spec := "fnLiftOrders", unfollowed := true, recurses := true, apart := false }
def FnLiftOrdersSaid : Prop := fnLiftOrdersRow.holds Try.pinned (OpenSpec.ofChange fnLiftOrdersSpec)

/-- ITS FALSE NEIGHBOUR: 'it returns false'. Refute it at one input. -/
def fnLiftOrdersWrong : ChangeSpec := { name := "fnLiftOrders", fn := fun _ => fun
  | [d] => { results := [.lit (.bool false)], args := [d] }
  | _ => none }
def FnLiftOrdersWrongFalsely : Prop := fnLiftOrdersRow.holds Try.pinned (OpenSpec.ofChange fnLiftOrdersWrong)

/-- 'laws.FnExactValidLifts': WHATEVER THE INPUT: true; the input reads as it did. -/
def fnExactValidLiftsSpec : ChangeSpec := { name := "fnExactValidLifts", fn := fun _ => fun
  | [d] => { results := [.lit (.bool true)], args := [d] }
  | _ => none }
def fnExactValidLiftsRow : OpenClaim := { program := "ytdcndoincahhiaa", sum := "6688adafe91b629ef317e405d3963721b1c9480743cc6f4b549c63c872aec28e", func := "loop.example/g00932/laws.FnExactValidLifts", spec := "fnExactValidLifts", unfollowed := true, recurses := true, apart := false }
def FnExactValidLiftsSaid : Prop := fnExactValidLiftsRow.holds Try.pinned (OpenSpec.ofChange fnExactValidLiftsSpec)

/-- ITS FALSE NEIGHBOUR: 'it returns false'. Refute it at one input. -/
def fnExactValidLiftsWrong : ChangeSpec := { name := "fnExactValidLifts", fn := fun _ => fun
  | [d] => { results := [.lit (.bool false)], args := [d] }
  | _ => none }
def FnExactValidLiftsWrongFalsely : Prop := fnExactValidLiftsRow.holds Try.pinned (OpenSpec.ofChange fnExactValidLiftsWrong)

/-- 'laws.FnExactSameLifts': WHATEVER THE INPUT: true; the input reads as it did. -/
def fnExactSameLiftsSpec : ChangeSpec := { name := "fnExactSameLifts", fn := fun _ => fun
  | [d1, d2] => { results := [.lit (.bool true)], args := [d1, d2] }
  | _ => none }
def fnExactSameLiftsRow : OpenClaim := { program := "ytdcndoincahhiaa", sum := "6688adafe91b629ef317e405d3963721b1c9480743cc6f4b549c63c872aec28e", func := "loop.example/g00932/laws.FnExactSameLifts", spec := "fnExactSameLifts", unfollowed := true, recurses := true, apart := false }
def FnExactSameLiftsSaid : Prop := fnExactSameLiftsRow.holds Try.pinned (OpenSpec.ofChange fnExactSameLiftsSpec)

/-- ITS FALSE NEIGHBOUR: 'it returns false'. Refute it at one input. -/
def fnExactSameLiftsWrong : ChangeSpec := { name := "fnExactSameLifts", fn := fun _ => fun
  | [d1, d2] => { results := [.lit (.bool false)], args := [d1, d2] }
  | _ => none }
def FnExactSameLiftsWrongFalsely : Prop := fnExactSameLiftsRow.holds Try.pinned (OpenSpec.ofChange fnExactSameLiftsWrong)

/-- 'laws.FnExactAddLift': WHATEVER THE INPUT: true; the input reads as it did. -/
def fnExactAddLiftSpec : ChangeSpec := { name := "fnExactAddLift", fn := fun _ => fun
  | [d1, d2] => { results := [.lit (.bool true)], args := [d1, d2] }
  | _ => none }
def fnExactAddLiftRow : OpenClaim := { program := "ytdcndoincahhiaa", sum := "6688adafe91b629ef317e405d3963721b1c9480743cc6f4b549c63c872aec28e", func := "loop.example/g00932/laws.FnExactAddLift", spec := "fnExactAddLift", unfollowed := true, recurses := true, apart := false }
def FnExactAddLiftSaid : Prop := fnExactAddLiftRow.holds Try.pinned (OpenSpec.ofChange fnExactAddLiftSpec)

/-- ITS FALSE NEIGHBOUR: 'it returns false'. Refute it at one input. -/
def fnExactAddLiftWrong : ChangeSpec := { name := "fnExactAddLift", fn := fun _ => fun
  | [d1, d2] => { results := [.lit (.bool false)], args := [d1, d2] }
  | _ => none }
def FnExactAddLiftWrongFalsely : Prop := fnExactAddLiftRow.holds Try.pinned (OpenSpec.ofChange fnExactAddLiftWrong)

/-- 'laws.FnExactDropLift': WHATEVER THE INPUT: true; the input reads as it did. -/
def fnExactDropLiftSpec : ChangeSpec := { name := "fnExactDropLift", fn := fun _ => fun
  | [d1, d2] => { results := [.lit (.bool true)], args := [d1, d2] }
  | _ => none }
def fnExactDropLiftRow : OpenClaim := { program := "ytdcndoincahhiaa", sum := "6688adafe91b629ef317e405d3963721b1c9480743cc6f4b549c63c872aec28e", func := "loop.example/g00932/laws.FnExactDropLift", spec := "fnExactDropLift", unfollowed := true, recurses := true, apart := false }
def FnExactDropLiftSaid : Prop := fnExactDropLiftRow.holds Try.pinned (OpenSpec.ofChange fnExactDropLiftSpec)

/-- ITS FALSE NEIGHBOUR: 'it returns false'. Refute it at one input. -/
def fnExactDropLiftWrong : ChangeSpec := { name := "fnExactDropLift", fn := fun _ => fun
  | [d1, d2] => { results := [.lit (.bool false)], args := [d1, d2] }
  | _ => none }
def FnExactDropLiftWrongFalsely : Prop := fnExactDropLiftRow.holds Try.pinned (OpenSpec.ofChange fnExactDropLiftWrong)

/-- 'laws.FnExactReadyLifts': WHATEVER THE INPUT: true; the input reads as it did. -/
def fnExactReadyLiftsSpec : ChangeSpec := { name := "fnExactReadyLifts", fn := fun _ => fun
  | [d1, d2] => { results := [.lit (.bool true)], args := [d1, d2] }
  | _ => none }
def fnExactReadyLiftsRow : OpenClaim := { program := "ytdcndoincahhiaa", sum := "6688adafe91b629ef317e405d3963721b1c9480743cc6f4b549c63c872aec28e", func := "loop.example/g00932/laws.FnExactReadyLifts", spec := "fnExactReadyLifts", unfollowed := true, recurses := true, apart := false }
def FnExactReadyLiftsSaid : Prop := fnExactReadyLiftsRow.holds Try.pinned (OpenSpec.ofChange fnExactReadyLiftsSpec)

/-- ITS FALSE NEIGHBOUR: 'it returns false'. Refute it at one input. -/
def fnExactReadyLiftsWrong : ChangeSpec := { name := "fnExactReadyLifts", fn := fun _ => fun
  | [d1, d2] => { results := [.lit (.bool false)], args := [d1, d2] }
  | _ => none }
def FnExactReadyLiftsWrongFalsely : Prop := fnExactReadyLiftsRow.holds Try.pinned (OpenSpec.ofChange fnExactReadyLiftsWrong)

/-- 'laws.FnExactNeededLifts': WHATEVER THE INPUT: true; the input reads as it did. -/
def fnExactNeededLiftsSpec : ChangeSpec := { name := "fnExactNeededLifts", fn := fun _ => fun
  | [d1, d2] => { results := [.lit (.bool true)], args := [d1, d2] }
  | _ => none }
def fnExactNeededLiftsRow : OpenClaim := { program := "ytdcndoincahhiaa", sum := "6688adafe91b629ef317e405d3963721b1c9480743cc6f4b549c63c872aec28e", func := "loop.example/g00932/laws.FnExactNeededLifts", spec := "fnExactNeededLifts", unfollowed := true, recurses := true, apart := false }
def FnExactNeededLiftsSaid : Prop := fnExactNeededLiftsRow.holds Try.pinned (OpenSpec.ofChange fnExactNeededLiftsSpec)

/-- ITS FALSE NEIGHBOUR: 'it returns false'. Refute it at one input. -/
def fnExactNeededLiftsWrong : ChangeSpec := { name := "fnExactNeededLifts", fn := fun _ => fun
  | [d1, d2] => { results := [.lit (.bool false)], args := [d1, d2] }
  | _ => none }
def FnExactNeededLiftsWrongFalsely : Prop := fnExactNeededLiftsRow.holds Try.pinned (OpenSpec.ofChange fnExactNeededLiftsWrong)

/-- 'laws.FnExactIsLiftOrder': WHATEVER THE INPUT: true; the input reads as it did. -/
def fnExactIsLiftOrderSpec : ChangeSpec := { name := "fnExactIsLiftOrder", fn := fun _ => fun
  | [d1, d2] => { results := [.lit (.bool true)], args := [d1, d2] }
  | _ => none }
def fnExactIsLiftOrderRow : OpenClaim := { program := "ytdcndoincahhiaa", sum := "6688adafe91b629ef317e405d3963721b1c9480743cc6f4b549c63c872aec28e", func := "loop.example/g00932/laws.FnExactIsLiftOrder", spec := "fnExactIsLiftOrder", unfollowed := true, recurses := true, apart := false }
def FnExactIsLiftOrderSaid : Prop := fnExactIsLiftOrderRow.holds Try.pinned (OpenSpec.ofChange fnExactIsLiftOrderSpec)

/-- ITS FALSE NEIGHBOUR: 'it returns false'. Refute it at one input. -/
def fnExactIsLiftOrderWrong : ChangeSpec := { name := "fnExactIsLiftOrder", fn := fun _ => fun
  | [d1, d2] => { results := [.lit (.bool false)], args := [d1, d2] }
  | _ => none }
def FnExactIsLiftOrderWrongFalsely : Prop := fnExactIsLiftOrderRow.holds Try.pinned (OpenSpec.ofChange fnExactIsLiftOrderWrong)

/-- 'laws.FnExactCountLiftOrders': WHATEVER THE INPUT: true; the input reads as it did. -/
def fnExactCountLiftOrdersSpec : ChangeSpec := { name := "fnExactCountLiftOrders", fn := fun _ => fun
  | [d] => { results := [.lit (.bool true)], args := [d] }
  | _ => none }
def fnExactCountLiftOrdersRow : OpenClaim := { program := "ytdcndoincahhiaa", sum := "6688adafe91b629ef317e405d3963721b1c9480743cc6f4b549c63c872aec28e", func := "loop.example/g00932/laws.FnExactCountLiftOrders", spec := "fnExactCountLiftOrders", unfollowed := true, recurses := true, apart := false }
def FnExactCountLiftOrdersSaid : Prop := fnExactCountLiftOrdersRow.holds Try.pinned (OpenSpec.ofChange fnExactCountLiftOrdersSpec)

/-- ITS FALSE NEIGHBOUR: 'it returns false'. Refute it at one input. -/
def fnExactCountLiftOrdersWrong : ChangeSpec := { name := "fnExactCountLiftOrders", fn := fun _ => fun
  | [d] => { results := [.lit (.bool false)], args := [d] }
  | _ => none }
def FnExactCountLiftOrdersWrongFalsely : Prop := fnExactCountLiftOrdersRow.holds Try.pinned (OpenSpec.ofChange fnExactCountLiftOrdersWrong)

/- THE SECOND FORM. 'bulk': how many values and letters a reading holds, each counted each time it is reached (what is shared counts as often as it is met; a slice's spare places count too). A statement '..UptoSaid' is the law's where the arguments, and the package variables that the reading takes, are together of bulk at most 1048576: NARROWER than '..Said'. Prove '..Said' where nothing that the law and all that it calls make is longer than what came in: it says more and counts as full. Else prove '..UptoSaid'. A law counts once. -/
mutual
def uptoBulk {H : Type} : DataW H → Nat
  | .lit (.string bytes) => bytes.length + 1
  | .lit _ => 1
  | .nil => 1
  | .ptr d => uptoBulk d + 1
  | .slice elems spare => uptoBulkAll elems + uptoBulkAll spare + 1
  | .agg parts => uptoBulkAll parts + 1
  | .iface _ d => uptoBulk d + 1
  | .map entries => uptoBulkEntries entries + 1
  | .held _ => 1
def uptoBulkAll {H : Type} : List (DataW H) → Nat
  | [] => 0
  | d :: r => uptoBulk d + uptoBulkAll r
def uptoBulkEntries {H : Type} : List (Lit × DataW H) → Nat
  | [] => 0
  | x :: r => uptoBulkEntry x + uptoBulkEntries r
def uptoBulkEntry {H : Type} : Lit × DataW H → Nat
  | (.string bytes, d) => bytes.length + uptoBulk d + 1
  | (_, d) => uptoBulk d + 1
 end
def uptoSmall : (H : Type) → List (DataW H) → Bool := fun _ ds => decide (uptoBulkAll ds ≤ 1048576)
def OpenSpec.upto (s : _root_.Go.ChangeSpec) : _root_.Go.OpenSpec := { _root_.Go.OpenSpec.ofChange s with cond := some uptoSmall }

/-- 'laws.FnLiftOrders', WHERE WHAT IT READS IS OF BULK AT MOST 1048576: true; the input reads as it did. -/
def fnLiftOrdersUptoRow : OpenClaim := { program := "ytdcndoincahhiaa", sum := "6688adafe91b629ef317e405d3963721b1c9480743cc6f4b549c63c872aec28e", func := "loop.example/g00932/laws.FnLiftOrders", spec := "fnLiftOrders", unfollowed := true, recurses := true, apart := false, narrowed := true }
def FnLiftOrdersUptoSaid : Prop := fnLiftOrdersUptoRow.holds Try.pinned (OpenSpec.upto fnLiftOrdersSpec)

/-- 'laws.FnExactValidLifts', WHERE WHAT IT READS IS OF BULK AT MOST 1048576: true; the input reads as it did. -/
def fnExactValidLiftsUptoRow : OpenClaim := { program := "ytdcndoincahhiaa", sum := "6688adafe91b629ef317e405d3963721b1c9480743cc6f4b549c63c872aec28e", func := "loop.example/g00932/laws.FnExactValidLifts", spec := "fnExactValidLifts", unfollowed := true, recurses := true, apart := false, narrowed := true }
def FnExactValidLiftsUptoSaid : Prop := fnExactValidLiftsUptoRow.holds Try.pinned (OpenSpec.upto fnExactValidLiftsSpec)

/-- 'laws.FnExactSameLifts', WHERE WHAT IT READS IS OF BULK AT MOST 1048576: true; the input reads as it did. -/
def fnExactSameLiftsUptoRow : OpenClaim := { program := "ytdcndoincahhiaa", sum := "6688adafe91b629ef317e405d3963721b1c9480743cc6f4b549c63c872aec28e", func := "loop.example/g00932/laws.FnExactSameLifts", spec := "fnExactSameLifts", unfollowed := true, recurses := true, apart := false, narrowed := true }
def FnExactSameLiftsUptoSaid : Prop := fnExactSameLiftsUptoRow.holds Try.pinned (OpenSpec.upto fnExactSameLiftsSpec)

/-- 'laws.FnExactAddLift', WHERE WHAT IT READS IS OF BULK AT MOST 1048576: true; the input reads as it did. -/
def fnExactAddLiftUptoRow : OpenClaim := { program := "ytdcndoincahhiaa", sum := "6688adafe91b629ef317e405d3963721b1c9480743cc6f4b549c63c872aec28e", func := "loop.example/g00932/laws.FnExactAddLift", spec := "fnExactAddLift", unfollowed := true, recurses := true, apart := false, narrowed := true }
def FnExactAddLiftUptoSaid : Prop := fnExactAddLiftUptoRow.holds Try.pinned (OpenSpec.upto fnExactAddLiftSpec)

/-- 'laws.FnExactDropLift', WHERE WHAT IT READS IS OF BULK AT MOST 1048576: true; the input reads as it did. -/
def fnExactDropLiftUptoRow : OpenClaim := { program := "ytdcndoincahhiaa", sum := "6688adafe91b629ef317e405d3963721b1c9480743cc6f4b549c63c872aec28e", func := "loop.example/g00932/laws.FnExactDropLift", spec := "fnExactDropLift", unfollowed := true, recurses := true, apart := false, narrowed := true }
def FnExactDropLiftUptoSaid : Prop := fnExactDropLiftUptoRow.holds Try.pinned (OpenSpec.upto fnExactDropLiftSpec)

/-- 'laws.FnExactReadyLifts', WHERE WHAT IT READS IS OF BULK AT MOST 1048576: true; the input reads as it did. -/
def fnExactReadyLiftsUptoRow : OpenClaim := { program := "ytdcndoincahhiaa", sum := "6688adafe91b629ef317e405d3963721b1c9480743cc6f4b549c63c872aec28e", func := "loop.example/g00932/laws.FnExactReadyLifts", spec := "fnExactReadyLifts", unfollowed := true, recurses := true, apart := false, narrowed := true }
def FnExactReadyLiftsUptoSaid : Prop := fnExactReadyLiftsUptoRow.holds Try.pinned (OpenSpec.upto fnExactReadyLiftsSpec)

/-- 'laws.FnExactNeededLifts', WHERE WHAT IT READS IS OF BULK AT MOST 1048576: true; the input reads as it did. -/
def fnExactNeededLiftsUptoRow : OpenClaim := { program := "ytdcndoincahhiaa", sum := "6688adafe91b629ef317e405d3963721b1c9480743cc6f4b549c63c872aec28e", func := "loop.example/g00932/laws.FnExactNeededLifts", spec := "fnExactNeededLifts", unfollowed := true, recurses := true, apart := false, narrowed := true }
def FnExactNeededLiftsUptoSaid : Prop := fnExactNeededLiftsUptoRow.holds Try.pinned (OpenSpec.upto fnExactNeededLiftsSpec)

/-- 'laws.FnExactIsLiftOrder', WHERE WHAT IT READS IS OF BULK AT MOST 1048576: true; the input reads as it did. -/
def fnExactIsLiftOrderUptoRow : OpenClaim := { program := "ytdcndoincahhiaa", sum := "6688adafe91b629ef317e405d3963721b1c9480743cc6f4b549c63c872aec28e", func := "loop.example/g00932/laws.FnExactIsLiftOrder", spec := "fnExactIsLiftOrder", unfollowed := true, recurses := true, apart := false, narrowed := true }
def FnExactIsLiftOrderUptoSaid : Prop := fnExactIsLiftOrderUptoRow.holds Try.pinned (OpenSpec.upto fnExactIsLiftOrderSpec)

/-- 'laws.FnExactCountLiftOrders', WHERE WHAT IT READS IS OF BULK AT MOST 1048576: true; the input reads as it did. -/
def fnExactCountLiftOrdersUptoRow : OpenClaim := { program := "ytdcndoincahhiaa", sum := "6688adafe91b629ef317e405d3963721b1c9480743cc6f4b549c63c872aec28e", func := "loop.example/g00932/laws.FnExactCountLiftOrders", spec := "fnExactCountLiftOrders", unfollowed := true, recurses := true, apart := false, narrowed := true }
def FnExactCountLiftOrdersUptoSaid : Prop := fnExactCountLiftOrdersUptoRow.holds Try.pinned (OpenSpec.upto fnExactCountLiftOrdersSpec)

end Rows
end Go.Proofs.Ytdcndoincahhiaa
