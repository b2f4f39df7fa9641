/-
  DERIVED. GIVEN WITH THE SEED: THE CARDS: each row of YtedmpjgpgbmolabDoorRows.lean that lists a variable, with what it lists TIED to the program's text (the seventh form; the later family's looks); each row that meets fmt, with fmt's text TOLD by the authors' own Lean function (tested against real Go, not proved from fmt's source: count such statements apart). THE CARD IS WHAT COUNTS. Prove the row's statement (the work); the ties are given (YtedmpjgpgbmolabDoorTie.lean); close each card by the builder's one call (the guide's Derived/Test/ToyasCard.lean, 'card_holds'). Laid BY PROGRAM, IN A SANDBOX (cutbox-door.mjs). By AI agents, Wed Nov 11 2026. No macro, syntax, notation, axiom, sorry.
-/
import Derived.Test.YtedmpjgpgbmolabDoorRows
import GoSem.ClaimSeven
namespace Go.Proofs.YtedmpjgpgbmolabDoor
namespace Rows

/-- THE TIED CARD OF 'laws.FnExactReadSling'. -/
def fnExactReadSlingCard : Claim7 := { stood := { row := fnExactReadSlingRow, standIns := [], harness := (true, "6e7935c01b4a3c0ac539b54ffe041ff023c3bbc4976c4f4b8cf343084c5de948"), looks := true }, kinds := [], alts := [], laidByText := true, laidKinds := [.data, .data, .data, .sentinel, .sentinel], laidTests := true, laidLooks := .later }
def FnExactReadSlingCardSaid : Prop := Claim7.holds Tryd.pinned (.plain (OpenSpec.ofChange fnExactReadSlingSpec)) fnExactReadSlingCard

/-- THE TIED CARD OF 'laws.FnCharts'. -/
def fnChartsCard : Claim7 := { stood := { row := fnChartsRow, standIns := [], harness := (true, "6e7935c01b4a3c0ac539b54ffe041ff023c3bbc4976c4f4b8cf343084c5de948"), looks := true }, kinds := [], alts := [], laidByText := true, laidKinds := [.data, .data, .data, .sentinel, .sentinel], laidTests := true, laidLooks := .later }
def FnChartsCardSaid : Prop := Claim7.holds Tryd.pinned (.plain (OpenSpec.ofChange fnChartsSpec)) fnChartsCard

/-- THE TIED CARD OF 'laws.FnSites'. -/
def fnSitesCard : Claim7 := { stood := { row := fnSitesRow, standIns := [], harness := (true, "6e7935c01b4a3c0ac539b54ffe041ff023c3bbc4976c4f4b8cf343084c5de948"), looks := true }, kinds := [], alts := [], laidByText := true, laidKinds := [.sentinel, .sentinel, .sentinel], laidTests := true, laidLooks := .later }
def FnSitesCardSaid : Prop := Claim7.holds Tryd.pinned (.plain (OpenSpec.ofChange fnSitesSpec)) fnSitesCard

/-- THE TIED CARD OF 'laws.FnExactAddCrane'. -/
def fnExactAddCraneCard : Claim7 := { stood := { row := fnExactAddCraneRow, standIns := [], harness := (true, "6e7935c01b4a3c0ac539b54ffe041ff023c3bbc4976c4f4b8cf343084c5de948"), looks := true }, kinds := [], alts := [], laidByText := true, laidKinds := [.sentinel, .sentinel, .sentinel], laidTests := true, laidLooks := .later }
def FnExactAddCraneCardSaid : Prop := Claim7.holds Tryd.pinned (.plain (OpenSpec.ofChange fnExactAddCraneSpec)) fnExactAddCraneCard

/-- THE TIED CARD OF 'laws.FnExactRemoveCrane'. -/
def fnExactRemoveCraneCard : Claim7 := { stood := { row := fnExactRemoveCraneRow, standIns := [], harness := (true, "6e7935c01b4a3c0ac539b54ffe041ff023c3bbc4976c4f4b8cf343084c5de948"), looks := true }, kinds := [], alts := [], laidByText := true, laidKinds := [.sentinel, .sentinel, .sentinel], laidTests := true, laidLooks := .later }
def FnExactRemoveCraneCardSaid : Prop := Claim7.holds Tryd.pinned (.plain (OpenSpec.ofChange fnExactRemoveCraneSpec)) fnExactRemoveCraneCard

/-- THE TIED CARD OF 'laws.FnExactFreeJibDirections'. -/
def fnExactFreeJibDirectionsCard : Claim7 := { stood := { row := fnExactFreeJibDirectionsRow, standIns := [], harness := (true, "6e7935c01b4a3c0ac539b54ffe041ff023c3bbc4976c4f4b8cf343084c5de948"), looks := true }, kinds := [], alts := [], laidByText := true, laidKinds := [.data], laidTests := true, laidLooks := .later }
def FnExactFreeJibDirectionsCardSaid : Prop := Claim7.holds Tryd.pinned (.plain (OpenSpec.ofChange fnExactFreeJibDirectionsSpec)) fnExactFreeJibDirectionsCard

/-- THE TIED CARD OF 'laws.FnExactZoneText'. -/
def fnExactZoneTextCard : Claim7 := { stood := { row := fnExactZoneTextRow, standIns := [], harness := (true, "6e7935c01b4a3c0ac539b54ffe041ff023c3bbc4976c4f4b8cf343084c5de948"), looks := true }, kinds := [], alts := [], laidByText := true, laidKinds := [.data, .data, .data, .data], laidTests := true, laidLooks := .later }
def FnExactZoneTextCardSaid : Prop := Claim7.holds Tryd.pinned (.plain (OpenSpec.ofChange fnExactZoneTextSpec)) fnExactZoneTextCard

/-- THE TIED CARD OF 'laws.FnExactReadZone'. -/
def fnExactReadZoneCard : Claim7 := { stood := { row := fnExactReadZoneRow, standIns := [], harness := (true, "6e7935c01b4a3c0ac539b54ffe041ff023c3bbc4976c4f4b8cf343084c5de948"), looks := true }, kinds := [], alts := [], laidByText := true, laidKinds := [.data, .data, .data, .sentinel, .sentinel, .data], laidTests := true, laidLooks := .later }
def FnExactReadZoneCardSaid : Prop := Claim7.holds Tryd.pinned (.plain (OpenSpec.ofChange fnExactReadZoneSpec)) fnExactReadZoneCard

/-- THE SECOND FORM's CARD OF 'laws.FnExactReadSling'. -/
def fnExactReadSlingUptoCard : Claim7 := { stood := { row := fnExactReadSlingUptoRow, standIns := [], harness := (true, "6e7935c01b4a3c0ac539b54ffe041ff023c3bbc4976c4f4b8cf343084c5de948"), looks := true }, kinds := [], alts := [], laidByText := true, laidKinds := [.data, .data, .data, .sentinel, .sentinel], laidTests := true, laidLooks := .later }
def FnExactReadSlingUptoCardSaid : Prop := Claim7.holds Tryd.pinned (.plain (OpenSpec.upto fnExactReadSlingSpec)) fnExactReadSlingUptoCard

/-- THE SECOND FORM's CARD OF 'laws.FnCharts'. -/
def fnChartsUptoCard : Claim7 := { stood := { row := fnChartsUptoRow, standIns := [], harness := (true, "6e7935c01b4a3c0ac539b54ffe041ff023c3bbc4976c4f4b8cf343084c5de948"), looks := true }, kinds := [], alts := [], laidByText := true, laidKinds := [.data, .data, .data, .sentinel, .sentinel], laidTests := true, laidLooks := .later }
def FnChartsUptoCardSaid : Prop := Claim7.holds Tryd.pinned (.plain (OpenSpec.upto fnChartsSpec)) fnChartsUptoCard

/-- THE SECOND FORM's CARD OF 'laws.FnSites'. -/
def fnSitesUptoCard : Claim7 := { stood := { row := fnSitesUptoRow, standIns := [], harness := (true, "6e7935c01b4a3c0ac539b54ffe041ff023c3bbc4976c4f4b8cf343084c5de948"), looks := true }, kinds := [], alts := [], laidByText := true, laidKinds := [.sentinel, .sentinel, .sentinel], laidTests := true, laidLooks := .later }
def FnSitesUptoCardSaid : Prop := Claim7.holds Tryd.pinned (.plain (OpenSpec.upto fnSitesSpec)) fnSitesUptoCard

/-- THE SECOND FORM's CARD OF 'laws.FnExactAddCrane'. -/
def fnExactAddCraneUptoCard : Claim7 := { stood := { row := fnExactAddCraneUptoRow, standIns := [], harness := (true, "6e7935c01b4a3c0ac539b54ffe041ff023c3bbc4976c4f4b8cf343084c5de948"), looks := true }, kinds := [], alts := [], laidByText := true, laidKinds := [.sentinel, .sentinel, .sentinel], laidTests := true, laidLooks := .later }
def FnExactAddCraneUptoCardSaid : Prop := Claim7.holds Tryd.pinned (.plain (OpenSpec.upto fnExactAddCraneSpec)) fnExactAddCraneUptoCard

/-- THE SECOND FORM's CARD OF 'laws.FnExactRemoveCrane'. -/
def fnExactRemoveCraneUptoCard : Claim7 := { stood := { row := fnExactRemoveCraneUptoRow, standIns := [], harness := (true, "6e7935c01b4a3c0ac539b54ffe041ff023c3bbc4976c4f4b8cf343084c5de948"), looks := true }, kinds := [], alts := [], laidByText := true, laidKinds := [.sentinel, .sentinel, .sentinel], laidTests := true, laidLooks := .later }
def FnExactRemoveCraneUptoCardSaid : Prop := Claim7.holds Tryd.pinned (.plain (OpenSpec.upto fnExactRemoveCraneSpec)) fnExactRemoveCraneUptoCard

/-- THE SECOND FORM's CARD OF 'laws.FnExactFreeJibDirections'. -/
def fnExactFreeJibDirectionsUptoCard : Claim7 := { stood := { row := fnExactFreeJibDirectionsUptoRow, standIns := [], harness := (true, "6e7935c01b4a3c0ac539b54ffe041ff023c3bbc4976c4f4b8cf343084c5de948"), looks := true }, kinds := [], alts := [], laidByText := true, laidKinds := [.data], laidTests := true, laidLooks := .later }
def FnExactFreeJibDirectionsUptoCardSaid : Prop := Claim7.holds Tryd.pinned (.plain (OpenSpec.upto fnExactFreeJibDirectionsSpec)) fnExactFreeJibDirectionsUptoCard

/-- THE SECOND FORM's CARD OF 'laws.FnExactZoneText'. -/
def fnExactZoneTextUptoCard : Claim7 := { stood := { row := fnExactZoneTextUptoRow, standIns := [], harness := (true, "6e7935c01b4a3c0ac539b54ffe041ff023c3bbc4976c4f4b8cf343084c5de948"), looks := true }, kinds := [], alts := [], laidByText := true, laidKinds := [.data, .data, .data, .data], laidTests := true, laidLooks := .later }
def FnExactZoneTextUptoCardSaid : Prop := Claim7.holds Tryd.pinned (.plain (OpenSpec.upto fnExactZoneTextSpec)) fnExactZoneTextUptoCard

/-- THE SECOND FORM's CARD OF 'laws.FnExactReadZone'. -/
def fnExactReadZoneUptoCard : Claim7 := { stood := { row := fnExactReadZoneUptoRow, standIns := [], harness := (true, "6e7935c01b4a3c0ac539b54ffe041ff023c3bbc4976c4f4b8cf343084c5de948"), looks := true }, kinds := [], alts := [], laidByText := true, laidKinds := [.data, .data, .data, .sentinel, .sentinel, .data], laidTests := true, laidLooks := .later }
def FnExactReadZoneUptoCardSaid : Prop := Claim7.holds Tryd.pinned (.plain (OpenSpec.upto fnExactReadZoneSpec)) fnExactReadZoneUptoCard
end Rows
end Go.Proofs.YtedmpjgpgbmolabDoor
