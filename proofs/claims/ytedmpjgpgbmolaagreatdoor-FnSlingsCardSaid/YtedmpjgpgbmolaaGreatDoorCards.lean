/-
  DERIVED. GIVEN WITH THE SEED: THE CARDS: each row of YtedmpjgpgbmolaaGreatDoorRows.lean that lists a variable, with what it lists TIED to the program's text (the seventh form; the later family's looks); each row that meets fmt, with fmt's text TOLD by the authors' own Lean function (tested against real Go, not proved from fmt's source: count such statements apart). THE CARD IS WHAT COUNTS. Prove the row's statement (the work); the ties are given (YtedmpjgpgbmolaaGreatDoorTie.lean); close each card by the builder's one call (the guide's Derived/Test/ToyasCard.lean, 'card_holds'). Laid BY PROGRAM, IN A SANDBOX (cutbox-door.mjs). By AI agents, Wed Nov 11 2026. No macro, syntax, notation, axiom, sorry.
-/
import Derived.Test.YtedmpjgpgbmolaaGreatDoorRows
import GoSem.ClaimSeven
namespace Go.Proofs.YtedmpjgpgbmolaaGreatDoor
namespace Rows

/-- THE TIED CARD OF 'laws.FnSlings'. -/
def fnSlingsCard : Claim7 := { stood := { row := fnSlingsRow, standIns := [], harness := (true, "3aa21be975d2a0c4a07962969db28475f8b13f5fe4fd4587ec3978401df674ee"), looks := true }, kinds := [], alts := [], laidByText := true, laidKinds := [.data, .data, .data, .sentinel, .sentinel], laidTests := true, laidLooks := .later }
def FnSlingsCardSaid : Prop := Claim7.holds Tryz.pinned (.plain (OpenSpec.ofChange fnSlingsSpec)) fnSlingsCard

/-- THE SECOND FORM's CARD OF 'laws.FnSlings'. -/
def fnSlingsUptoCard : Claim7 := { stood := { row := fnSlingsUptoRow, standIns := [], harness := (true, "3aa21be975d2a0c4a07962969db28475f8b13f5fe4fd4587ec3978401df674ee"), looks := true }, kinds := [], alts := [], laidByText := true, laidKinds := [.data, .data, .data, .sentinel, .sentinel], laidTests := true, laidLooks := .later }
def FnSlingsUptoCardSaid : Prop := Claim7.holds Tryz.pinned (.plain (OpenSpec.upto fnSlingsSpec)) fnSlingsUptoCard
end Rows
end Go.Proofs.YtedmpjgpgbmolaaGreatDoor
