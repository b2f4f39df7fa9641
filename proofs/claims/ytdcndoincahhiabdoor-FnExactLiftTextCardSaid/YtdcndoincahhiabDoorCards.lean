/-
  DERIVED. GIVEN WITH THE SEED: THE CARDS: each row of YtdcndoincahhiabDoorRows.lean that lists a variable, with what it lists TIED to the program's text (the seventh form; the later family's looks); each row that meets fmt, with fmt's text TOLD by the authors' own Lean function (tested against real Go, not proved from fmt's source: count such statements apart). THE CARD IS WHAT COUNTS. Prove the row's statement (the work); the ties are given (YtdcndoincahhiabDoorTie.lean); close each card by the builder's one call (the guide's Derived/Test/ToyasCard.lean, 'card_holds'). Laid BY PROGRAM, IN A SANDBOX (cutbox-door.mjs). By AI agents, Wed Nov 11 2026. No macro, syntax, notation, axiom, sorry.
-/
import Derived.Test.YtdcndoincahhiabDoorRows
import GoSem.ClaimSeven
namespace Go.Proofs.YtdcndoincahhiabDoor
namespace Rows

/-- THE TIED CARD OF 'laws.FnExactLiftText'. -/
def fnExactLiftTextCard : Claim7 := { stood := { row := fnExactLiftTextRow, standIns := [], harness := (true, "f8cdfdda32b7378cc8fa6c10d812373c3a1a588108303ba3da77433188a8f36a"), looks := false }, kinds := [], alts := [], laidByText := true, laidKinds := [.data, .data, .data], laidTests := true, laidLooks := .later }
def FnExactLiftTextCardSaid : Prop := Claim7.holds Tryd.pinned (.plain (OpenSpec.ofChange fnExactLiftTextSpec)) fnExactLiftTextCard

/-- THE TIED CARD OF 'laws.FnExactLiftDirections'. -/
def fnExactLiftDirectionsCard : Claim7 := { stood := { row := fnExactLiftDirectionsRow, standIns := [], harness := (true, "f8cdfdda32b7378cc8fa6c10d812373c3a1a588108303ba3da77433188a8f36a"), looks := false }, kinds := [], alts := [], laidByText := true, laidKinds := [.data], laidTests := true, laidLooks := .later }
def FnExactLiftDirectionsCardSaid : Prop := Claim7.holds Tryd.pinned (.plain (OpenSpec.ofChange fnExactLiftDirectionsSpec)) fnExactLiftDirectionsCard

/-- THE TIED CARD OF 'laws.FnExactBestCrane'. -/
def fnExactBestCraneCard : Claim7 := { stood := { row := fnExactBestCraneRow, standIns := [], harness := (true, "f8cdfdda32b7378cc8fa6c10d812373c3a1a588108303ba3da77433188a8f36a"), looks := false }, kinds := [], alts := [], laidByText := true, laidKinds := [.sentinel, .sentinel, .sentinel], laidTests := true, laidLooks := .later }
def FnExactBestCraneCardSaid : Prop := Claim7.holds Tryd.pinned (.plain (OpenSpec.ofChange fnExactBestCraneSpec)) fnExactBestCraneCard

/-- THE SECOND FORM's CARD OF 'laws.FnExactLiftText'. -/
def fnExactLiftTextUptoCard : Claim7 := { stood := { row := fnExactLiftTextUptoRow, standIns := [], harness := (true, "f8cdfdda32b7378cc8fa6c10d812373c3a1a588108303ba3da77433188a8f36a"), looks := false }, kinds := [], alts := [], laidByText := true, laidKinds := [.data, .data, .data], laidTests := true, laidLooks := .later }
def FnExactLiftTextUptoCardSaid : Prop := Claim7.holds Tryd.pinned (.plain (OpenSpec.upto fnExactLiftTextSpec)) fnExactLiftTextUptoCard

/-- THE SECOND FORM's CARD OF 'laws.FnExactLiftDirections'. -/
def fnExactLiftDirectionsUptoCard : Claim7 := { stood := { row := fnExactLiftDirectionsUptoRow, standIns := [], harness := (true, "f8cdfdda32b7378cc8fa6c10d812373c3a1a588108303ba3da77433188a8f36a"), looks := false }, kinds := [], alts := [], laidByText := true, laidKinds := [.data], laidTests := true, laidLooks := .later }
def FnExactLiftDirectionsUptoCardSaid : Prop := Claim7.holds Tryd.pinned (.plain (OpenSpec.upto fnExactLiftDirectionsSpec)) fnExactLiftDirectionsUptoCard

/-- THE SECOND FORM's CARD OF 'laws.FnExactBestCrane'. -/
def fnExactBestCraneUptoCard : Claim7 := { stood := { row := fnExactBestCraneUptoRow, standIns := [], harness := (true, "f8cdfdda32b7378cc8fa6c10d812373c3a1a588108303ba3da77433188a8f36a"), looks := false }, kinds := [], alts := [], laidByText := true, laidKinds := [.sentinel, .sentinel, .sentinel], laidTests := true, laidLooks := .later }
def FnExactBestCraneUptoCardSaid : Prop := Claim7.holds Tryd.pinned (.plain (OpenSpec.upto fnExactBestCraneSpec)) fnExactBestCraneUptoCard
end Rows
end Go.Proofs.YtdcndoincahhiabDoor
