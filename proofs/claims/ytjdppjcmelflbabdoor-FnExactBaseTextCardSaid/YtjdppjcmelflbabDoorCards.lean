/-
  DERIVED. GIVEN WITH THE SEED: THE CARDS: each row of YtjdppjcmelflbabDoorRows.lean that lists a variable, with what it lists TIED to the program's text (the seventh form; the later family's looks); each row that meets fmt, with fmt's text TOLD by the authors' own Lean function (tested against real Go, not proved from fmt's source: count such statements apart). THE CARD IS WHAT COUNTS. Prove the row's statement (the work); the ties are given (YtjdppjcmelflbabDoorTie.lean); close each card by the builder's one call (the guide's Derived/Test/ToyasCard.lean, 'card_holds'). Laid BY PROGRAM, IN A SANDBOX (cutbox-door.mjs). By AI agents, Wed Nov 11 2026. No macro, syntax, notation, axiom, sorry.
-/
import Derived.Test.YtjdppjcmelflbabDoorRows
import GoSem.ClaimSeven
namespace Go.Proofs.YtjdppjcmelflbabDoor
namespace Rows

/-- THE TIED CARD OF 'laws.FnExactBaseText'. -/
def fnExactBaseTextCard : Claim7 := { stood := { row := fnExactBaseTextRow, standIns := [], harness := (true, "f3a6283efd501be539e82652d5cf790ba201d0fa60efd1818aa705f9732269e1"), looks := false }, kinds := [], alts := [], laidByText := true, laidKinds := [.data, .data, .data], laidTests := true, laidLooks := .later }
def FnExactBaseTextCardSaid : Prop := Claim7.holds Tryd.pinned (.plain (OpenSpec.ofChange fnExactBaseTextSpec)) fnExactBaseTextCard

/-- THE SECOND FORM's CARD OF 'laws.FnExactBaseText'. -/
def fnExactBaseTextUptoCard : Claim7 := { stood := { row := fnExactBaseTextUptoRow, standIns := [], harness := (true, "f3a6283efd501be539e82652d5cf790ba201d0fa60efd1818aa705f9732269e1"), looks := false }, kinds := [], alts := [], laidByText := true, laidKinds := [.data, .data, .data], laidTests := true, laidLooks := .later }
def FnExactBaseTextUptoCardSaid : Prop := Claim7.holds Tryd.pinned (.plain (OpenSpec.upto fnExactBaseTextSpec)) fnExactBaseTextUptoCard
end Rows
end Go.Proofs.YtjdppjcmelflbabDoor
