/-
  No cell of these rows narrows 'for every input' (looked for: loops, veiled, ifaces, maps, wideKeys, modest, calm, conditions, laid).
  DERIVED. THE GIVEN ROWS OF THIS SEAT. 4 by the template 'for every input the law returns true; each argument reads behind the call as it read before'; 0 by the template 'total and deterministic' (their statements: YtlpoeepjilfncaaTotals.lean).
  GIVEN WITH THE SEED: the statements are not yours to turn. If you find one false, say at which input.
  Laid BY PROGRAM, IN A SANDBOX (cutbox-rows.mjs): the forced cells as the released guide's own fill.sh prints them over the translation ba90a392b1f5650e… (all of the seat's roots in one cut). By AI agents, Wed Nov 11 2026. No macro, syntax, notation, axiom, sorry.
-/
import Derived.Test.YtlpoeepjilfncaaChecked
import GoSem.Claim
import GoSem.ClaimJoined
import GoSem.ClaimMapViews
import Derived.JoinedTies
import Derived.KernelRfl
namespace Go.Proofs.Ytlpoeepjilfncaa
/- THE CELL 'sum', in the pinned program and in every row, IS THE sha256 OF THE DUMP (.gsa) THAT YtlpoeepjilfncaaProg.lean LOADS. Nothing in Lean hashes anything: it is a label: what it is worth is what the hold of that sum in a sandbox is worth. -/
noncomputable def Try.pinned : Pinned := { name := "ytlpoeepjilfncaa", sum := "ba90a392b1f5650e5a52d5921f5c9b3672b2e56d58dfc05d86b1250b65259c57", checked := Try.checked }
namespace Rows
def none {H : Type} : Left H := { results := [], args := [] }

/-- 'laws.FnExactValidCrane': WHATEVER THE INPUT: true; the input reads as it did. -/
def fnExactValidCraneSpec : ChangeSpec := { name := "fnExactValidCrane", fn := fun _ => fun
  | [d] => { results := [.lit (.bool true)], args := [d] }
  | _ => none }
def fnExactValidCraneRow : OpenClaim := { program := "ytlpoeepjilfncaa", sum := "ba90a392b1f5650e5a52d5921f5c9b3672b2e56d58dfc05d86b1250b65259c57", func := "loop.example/g00932/laws.FnExactValidCrane", spec := "fnExactValidCrane", apart := false }
def FnExactValidCraneSaid : Prop := fnExactValidCraneRow.holds Try.pinned (OpenSpec.ofChange fnExactValidCraneSpec)

/-- ITS FALSE NEIGHBOUR: 'it returns false'. Refute it at one input. -/
def fnExactValidCraneWrong : ChangeSpec := { name := "fnExactValidCrane", fn := fun _ => fun
  | [d] => { results := [.lit (.bool false)], args := [d] }
  | _ => none }
def FnExactValidCraneWrongFalsely : Prop := fnExactValidCraneRow.holds Try.pinned (OpenSpec.ofChange fnExactValidCraneWrong)

/-- 'laws.FnExactSameSite': WHATEVER THE INPUT: true; the input reads as it did. -/
def fnExactSameSiteSpec : ChangeSpec := { name := "fnExactSameSite", fn := fun _ => fun
  | [d1, d2] => { results := [.lit (.bool true)], args := [d1, d2] }
  | _ => none }
def fnExactSameSiteRow : OpenClaim := { program := "ytlpoeepjilfncaa", sum := "ba90a392b1f5650e5a52d5921f5c9b3672b2e56d58dfc05d86b1250b65259c57", func := "loop.example/g00932/laws.FnExactSameSite", spec := "fnExactSameSite", unfollowed := true, recurses := true, apart := false }
def FnExactSameSiteSaid : Prop := fnExactSameSiteRow.holds Try.pinned (OpenSpec.ofChange fnExactSameSiteSpec)

/-- ITS FALSE NEIGHBOUR: 'it returns false'. Refute it at one input. -/
def fnExactSameSiteWrong : ChangeSpec := { name := "fnExactSameSite", fn := fun _ => fun
  | [d1, d2] => { results := [.lit (.bool false)], args := [d1, d2] }
  | _ => none }
def FnExactSameSiteWrongFalsely : Prop := fnExactSameSiteRow.holds Try.pinned (OpenSpec.ofChange fnExactSameSiteWrong)

/-- 'laws.FnExactReachesPlace': WHATEVER THE INPUT: true; the input reads as it did. -/
def fnExactReachesPlaceSpec : ChangeSpec := { name := "fnExactReachesPlace", fn := fun _ => fun
  | [d1, d2] => { results := [.lit (.bool true)], args := [d1, d2] }
  | _ => none }
def fnExactReachesPlaceRow : OpenClaim := { program := "ytlpoeepjilfncaa", sum := "ba90a392b1f5650e5a52d5921f5c9b3672b2e56d58dfc05d86b1250b65259c57", func := "loop.example/g00932/laws.FnExactReachesPlace", spec := "fnExactReachesPlace", unfollowed := true, recurses := true, apart := false }
def FnExactReachesPlaceSaid : Prop := fnExactReachesPlaceRow.holds Try.pinned (OpenSpec.ofChange fnExactReachesPlaceSpec)

/-- ITS FALSE NEIGHBOUR: 'it returns false'. Refute it at one input. -/
def fnExactReachesPlaceWrong : ChangeSpec := { name := "fnExactReachesPlace", fn := fun _ => fun
  | [d1, d2] => { results := [.lit (.bool false)], args := [d1, d2] }
  | _ => none }
def FnExactReachesPlaceWrongFalsely : Prop := fnExactReachesPlaceRow.holds Try.pinned (OpenSpec.ofChange fnExactReachesPlaceWrong)

/-- 'laws.FnExactLoadAtPlace': WHATEVER THE INPUT: true; the input reads as it did. -/
def fnExactLoadAtPlaceSpec : ChangeSpec := { name := "fnExactLoadAtPlace", fn := fun _ => fun
  | [d1, d2] => { results := [.lit (.bool true)], args := [d1, d2] }
  | _ => none }
def fnExactLoadAtPlaceRow : OpenClaim := { program := "ytlpoeepjilfncaa", sum := "ba90a392b1f5650e5a52d5921f5c9b3672b2e56d58dfc05d86b1250b65259c57", func := "loop.example/g00932/laws.FnExactLoadAtPlace", spec := "fnExactLoadAtPlace", unfollowed := true, recurses := true, apart := false }
def FnExactLoadAtPlaceSaid : Prop := fnExactLoadAtPlaceRow.holds Try.pinned (OpenSpec.ofChange fnExactLoadAtPlaceSpec)

/-- ITS FALSE NEIGHBOUR: 'it returns false'. Refute it at one input. -/
def fnExactLoadAtPlaceWrong : ChangeSpec := { name := "fnExactLoadAtPlace", fn := fun _ => fun
  | [d1, d2] => { results := [.lit (.bool false)], args := [d1, d2] }
  | _ => none }
def FnExactLoadAtPlaceWrongFalsely : Prop := fnExactLoadAtPlaceRow.holds Try.pinned (OpenSpec.ofChange fnExactLoadAtPlaceWrong)

/- THE SECOND FORM. 'bulk': how many values and letters a reading holds, each counted each time it is reached (what is shared counts as often as it is met; a slice's spare places count too). A statement '..UptoSaid' is the law's where the arguments, and the package variables that the reading takes, are together of bulk at most 1048576: NARROWER than '..Said'. Prove '..Said' where nothing that the law and all that it calls make is longer than what came in: it says more and counts as full. Else prove '..UptoSaid'. A law counts once. -/
mutual
def uptoBulk {H : Type} : DataW H → Nat
  | .lit (.string bytes) => bytes.length + 1
  | .lit _ => 1
  | .nil => 1
  | .ptr d => uptoBulk d + 1
  | .slice elems spare => uptoBulkAll elems + uptoBulkAll spare + 1
  | .agg parts => uptoBulkAll parts + 1
  | .iface _ d => uptoBulk d + 1
  | .map entries => uptoBulkEntries entries + 1
  | .held _ => 1
def uptoBulkAll {H : Type} : List (DataW H) → Nat
  | [] => 0
  | d :: r => uptoBulk d + uptoBulkAll r
def uptoBulkEntries {H : Type} : List (Lit × DataW H) → Nat
  | [] => 0
  | x :: r => uptoBulkEntry x + uptoBulkEntries r
def uptoBulkEntry {H : Type} : Lit × DataW H → Nat
  | (.string bytes, d) => bytes.length + uptoBulk d + 1
  | (_, d) => uptoBulk d + 1
 end
def uptoSmall : (H : Type) → List (DataW H) → Bool := fun _ ds => decide (uptoBulkAll ds ≤ 1048576)
def OpenSpec.upto (s : _root_.Go.ChangeSpec) : _root_.Go.OpenSpec := { _root_.Go.OpenSpec.ofChange s with cond := some uptoSmall }

/-- 'laws.FnExactValidCrane', WHERE WHAT IT READS IS OF BULK AT MOST 1048576: true; the input reads as it did. -/
def fnExactValidCraneUptoRow : OpenClaim := { program := "ytlpoeepjilfncaa", sum := "ba90a392b1f5650e5a52d5921f5c9b3672b2e56d58dfc05d86b1250b65259c57", func := "loop.example/g00932/laws.FnExactValidCrane", spec := "fnExactValidCrane", apart := false, narrowed := true }
def FnExactValidCraneUptoSaid : Prop := fnExactValidCraneUptoRow.holds Try.pinned (OpenSpec.upto fnExactValidCraneSpec)

/-- 'laws.FnExactSameSite', WHERE WHAT IT READS IS OF BULK AT MOST 1048576: true; the input reads as it did. -/
def fnExactSameSiteUptoRow : OpenClaim := { program := "ytlpoeepjilfncaa", sum := "ba90a392b1f5650e5a52d5921f5c9b3672b2e56d58dfc05d86b1250b65259c57", func := "loop.example/g00932/laws.FnExactSameSite", spec := "fnExactSameSite", unfollowed := true, recurses := true, apart := false, narrowed := true }
def FnExactSameSiteUptoSaid : Prop := fnExactSameSiteUptoRow.holds Try.pinned (OpenSpec.upto fnExactSameSiteSpec)

/-- 'laws.FnExactReachesPlace', WHERE WHAT IT READS IS OF BULK AT MOST 1048576: true; the input reads as it did. -/
def fnExactReachesPlaceUptoRow : OpenClaim := { program := "ytlpoeepjilfncaa", sum := "ba90a392b1f5650e5a52d5921f5c9b3672b2e56d58dfc05d86b1250b65259c57", func := "loop.example/g00932/laws.FnExactReachesPlace", spec := "fnExactReachesPlace", unfollowed := true, recurses := true, apart := false, narrowed := true }
def FnExactReachesPlaceUptoSaid : Prop := fnExactReachesPlaceUptoRow.holds Try.pinned (OpenSpec.upto fnExactReachesPlaceSpec)

/-- 'laws.FnExactLoadAtPlace', WHERE WHAT IT READS IS OF BULK AT MOST 1048576: true; the input reads as it did. -/
def fnExactLoadAtPlaceUptoRow : OpenClaim := { program := "ytlpoeepjilfncaa", sum := "ba90a392b1f5650e5a52d5921f5c9b3672b2e56d58dfc05d86b1250b65259c57", func := "loop.example/g00932/laws.FnExactLoadAtPlace", spec := "fnExactLoadAtPlace", unfollowed := true, recurses := true, apart := false, narrowed := true }
def FnExactLoadAtPlaceUptoSaid : Prop := fnExactLoadAtPlaceUptoRow.holds Try.pinned (OpenSpec.upto fnExactLoadAtPlaceSpec)

end Rows
end Go.Proofs.Ytlpoeepjilfncaa
