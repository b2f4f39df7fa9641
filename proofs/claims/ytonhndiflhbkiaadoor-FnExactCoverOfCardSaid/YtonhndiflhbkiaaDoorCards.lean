/-
  DERIVED. GIVEN WITH THE SEED: THE CARDS: each row of YtonhndiflhbkiaaDoorRows.lean that lists a variable, with what it lists TIED to the program's text (the seventh form; the later family's looks); each row that meets fmt, with fmt's text TOLD by the authors' own Lean function (tested against real Go, not proved from fmt's source: count such statements apart). THE CARD IS WHAT COUNTS. Prove the row's statement (the work); the ties are given (YtonhndiflhbkiaaDoorTie.lean); close each card by the builder's one call (the guide's Derived/Test/ToyasCard.lean, 'card_holds'). Laid BY PROGRAM, IN A SANDBOX (cutbox-door.mjs). By AI agents, Wed Nov 11 2026. No macro, syntax, notation, axiom, sorry.
-/
import Derived.Test.YtonhndiflhbkiaaDoorRows
import GoSem.ClaimSeven
namespace Go.Proofs.YtonhndiflhbkiaaDoor
namespace Rows

/-- THE TIED CARD OF 'laws.FnCharts'. -/
def fnChartsCard : Claim7 := { stood := { row := fnChartsRow, standIns := [], harness := (true, "027d6dd405880988b3c8f1f1eb760a4d4b4592b868ae5f442724f4559c346ef2"), looks := true }, kinds := [], alts := [], laidByText := true, laidKinds := [.data, .data, .data, .sentinel, .sentinel], laidTests := true, laidLooks := .later }
def FnChartsCardSaid : Prop := Claim7.holds Tryd.pinned (.plain (OpenSpec.ofChange fnChartsSpec)) fnChartsCard

/-- THE TIED CARD OF 'laws.FnSites'. -/
def fnSitesCard : Claim7 := { stood := { row := fnSitesRow, standIns := [], harness := (true, "027d6dd405880988b3c8f1f1eb760a4d4b4592b868ae5f442724f4559c346ef2"), looks := true }, kinds := [], alts := [], laidByText := true, laidKinds := [.sentinel, .sentinel, .sentinel], laidTests := true, laidLooks := .later }
def FnSitesCardSaid : Prop := Claim7.holds Tryd.pinned (.plain (OpenSpec.ofChange fnSitesSpec)) fnSitesCard

/-- THE TIED CARD OF 'laws.FnExactValidSite'. -/
def fnExactValidSiteCard : Claim7 := { stood := { row := fnExactValidSiteRow, standIns := [], harness := (true, "027d6dd405880988b3c8f1f1eb760a4d4b4592b868ae5f442724f4559c346ef2"), looks := true }, kinds := [], alts := [], laidByText := true, laidKinds := [.sentinel, .sentinel, .sentinel], laidTests := true, laidLooks := .later }
def FnExactValidSiteCardSaid : Prop := Claim7.holds Tryd.pinned (.plain (OpenSpec.ofChange fnExactValidSiteSpec)) fnExactValidSiteCard

/-- THE TIED CARD OF 'laws.FnExactAddCrane'. -/
def fnExactAddCraneCard : Claim7 := { stood := { row := fnExactAddCraneRow, standIns := [], harness := (true, "027d6dd405880988b3c8f1f1eb760a4d4b4592b868ae5f442724f4559c346ef2"), looks := true }, kinds := [], alts := [], laidByText := true, laidKinds := [.sentinel, .sentinel, .sentinel], laidTests := true, laidLooks := .later }
def FnExactAddCraneCardSaid : Prop := Claim7.holds Tryd.pinned (.plain (OpenSpec.ofChange fnExactAddCraneSpec)) fnExactAddCraneCard

/-- THE TIED CARD OF 'laws.FnExactRemoveCrane'. -/
def fnExactRemoveCraneCard : Claim7 := { stood := { row := fnExactRemoveCraneRow, standIns := [], harness := (true, "027d6dd405880988b3c8f1f1eb760a4d4b4592b868ae5f442724f4559c346ef2"), looks := true }, kinds := [], alts := [], laidByText := true, laidKinds := [.sentinel, .sentinel, .sentinel], laidTests := true, laidLooks := .later }
def FnExactRemoveCraneCardSaid : Prop := Claim7.holds Tryd.pinned (.plain (OpenSpec.ofChange fnExactRemoveCraneSpec)) fnExactRemoveCraneCard

/-- THE TIED CARD OF 'laws.FnExactCraneNamed'. -/
def fnExactCraneNamedCard : Claim7 := { stood := { row := fnExactCraneNamedRow, standIns := [], harness := (true, "027d6dd405880988b3c8f1f1eb760a4d4b4592b868ae5f442724f4559c346ef2"), looks := true }, kinds := [], alts := [], laidByText := true, laidKinds := [.sentinel, .sentinel, .sentinel], laidTests := true, laidLooks := .later }
def FnExactCraneNamedCardSaid : Prop := Claim7.holds Tryd.pinned (.plain (OpenSpec.ofChange fnExactCraneNamedSpec)) fnExactCraneNamedCard

/-- THE TIED CARD OF 'laws.FnExactNeighboursOf'. -/
def fnExactNeighboursOfCard : Claim7 := { stood := { row := fnExactNeighboursOfRow, standIns := [], harness := (true, "027d6dd405880988b3c8f1f1eb760a4d4b4592b868ae5f442724f4559c346ef2"), looks := true }, kinds := [], alts := [], laidByText := true, laidKinds := [.sentinel, .sentinel, .sentinel], laidTests := true, laidLooks := .later }
def FnExactNeighboursOfCardSaid : Prop := Claim7.holds Tryd.pinned (.plain (OpenSpec.ofChange fnExactNeighboursOfSpec)) fnExactNeighboursOfCard

/-- THE TIED CARD OF 'laws.FnExactCoverOf'. -/
def fnExactCoverOfCard : Claim7 := { stood := { row := fnExactCoverOfRow, standIns := [], harness := (true, "027d6dd405880988b3c8f1f1eb760a4d4b4592b868ae5f442724f4559c346ef2"), looks := true }, kinds := [], alts := [], laidByText := true, laidKinds := [.sentinel, .sentinel, .sentinel], laidTests := true, laidLooks := .later }
def FnExactCoverOfCardSaid : Prop := Claim7.holds Tryd.pinned (.plain (OpenSpec.ofChange fnExactCoverOfSpec)) fnExactCoverOfCard

/-- THE SECOND FORM's CARD OF 'laws.FnCharts'. -/
def fnChartsUptoCard : Claim7 := { stood := { row := fnChartsUptoRow, standIns := [], harness := (true, "027d6dd405880988b3c8f1f1eb760a4d4b4592b868ae5f442724f4559c346ef2"), looks := true }, kinds := [], alts := [], laidByText := true, laidKinds := [.data, .data, .data, .sentinel, .sentinel], laidTests := true, laidLooks := .later }
def FnChartsUptoCardSaid : Prop := Claim7.holds Tryd.pinned (.plain (OpenSpec.upto fnChartsSpec)) fnChartsUptoCard

/-- THE SECOND FORM's CARD OF 'laws.FnSites'. -/
def fnSitesUptoCard : Claim7 := { stood := { row := fnSitesUptoRow, standIns := [], harness := (true, "027d6dd405880988b3c8f1f1eb760a4d4b4592b868ae5f442724f4559c346ef2"), looks := true }, kinds := [], alts := [], laidByText := true, laidKinds := [.sentinel, .sentinel, .sentinel], laidTests := true, laidLooks := .later }
def FnSitesUptoCardSaid : Prop := Claim7.holds Tryd.pinned (.plain (OpenSpec.upto fnSitesSpec)) fnSitesUptoCard

/-- THE SECOND FORM's CARD OF 'laws.FnExactValidSite'. -/
def fnExactValidSiteUptoCard : Claim7 := { stood := { row := fnExactValidSiteUptoRow, standIns := [], harness := (true, "027d6dd405880988b3c8f1f1eb760a4d4b4592b868ae5f442724f4559c346ef2"), looks := true }, kinds := [], alts := [], laidByText := true, laidKinds := [.sentinel, .sentinel, .sentinel], laidTests := true, laidLooks := .later }
def FnExactValidSiteUptoCardSaid : Prop := Claim7.holds Tryd.pinned (.plain (OpenSpec.upto fnExactValidSiteSpec)) fnExactValidSiteUptoCard

/-- THE SECOND FORM's CARD OF 'laws.FnExactAddCrane'. -/
def fnExactAddCraneUptoCard : Claim7 := { stood := { row := fnExactAddCraneUptoRow, standIns := [], harness := (true, "027d6dd405880988b3c8f1f1eb760a4d4b4592b868ae5f442724f4559c346ef2"), looks := true }, kinds := [], alts := [], laidByText := true, laidKinds := [.sentinel, .sentinel, .sentinel], laidTests := true, laidLooks := .later }
def FnExactAddCraneUptoCardSaid : Prop := Claim7.holds Tryd.pinned (.plain (OpenSpec.upto fnExactAddCraneSpec)) fnExactAddCraneUptoCard

/-- THE SECOND FORM's CARD OF 'laws.FnExactRemoveCrane'. -/
def fnExactRemoveCraneUptoCard : Claim7 := { stood := { row := fnExactRemoveCraneUptoRow, standIns := [], harness := (true, "027d6dd405880988b3c8f1f1eb760a4d4b4592b868ae5f442724f4559c346ef2"), looks := true }, kinds := [], alts := [], laidByText := true, laidKinds := [.sentinel, .sentinel, .sentinel], laidTests := true, laidLooks := .later }
def FnExactRemoveCraneUptoCardSaid : Prop := Claim7.holds Tryd.pinned (.plain (OpenSpec.upto fnExactRemoveCraneSpec)) fnExactRemoveCraneUptoCard

/-- THE SECOND FORM's CARD OF 'laws.FnExactCraneNamed'. -/
def fnExactCraneNamedUptoCard : Claim7 := { stood := { row := fnExactCraneNamedUptoRow, standIns := [], harness := (true, "027d6dd405880988b3c8f1f1eb760a4d4b4592b868ae5f442724f4559c346ef2"), looks := true }, kinds := [], alts := [], laidByText := true, laidKinds := [.sentinel, .sentinel, .sentinel], laidTests := true, laidLooks := .later }
def FnExactCraneNamedUptoCardSaid : Prop := Claim7.holds Tryd.pinned (.plain (OpenSpec.upto fnExactCraneNamedSpec)) fnExactCraneNamedUptoCard

/-- THE SECOND FORM's CARD OF 'laws.FnExactNeighboursOf'. -/
def fnExactNeighboursOfUptoCard : Claim7 := { stood := { row := fnExactNeighboursOfUptoRow, standIns := [], harness := (true, "027d6dd405880988b3c8f1f1eb760a4d4b4592b868ae5f442724f4559c346ef2"), looks := true }, kinds := [], alts := [], laidByText := true, laidKinds := [.sentinel, .sentinel, .sentinel], laidTests := true, laidLooks := .later }
def FnExactNeighboursOfUptoCardSaid : Prop := Claim7.holds Tryd.pinned (.plain (OpenSpec.upto fnExactNeighboursOfSpec)) fnExactNeighboursOfUptoCard

/-- THE SECOND FORM's CARD OF 'laws.FnExactCoverOf'. -/
def fnExactCoverOfUptoCard : Claim7 := { stood := { row := fnExactCoverOfUptoRow, standIns := [], harness := (true, "027d6dd405880988b3c8f1f1eb760a4d4b4592b868ae5f442724f4559c346ef2"), looks := true }, kinds := [], alts := [], laidByText := true, laidKinds := [.sentinel, .sentinel, .sentinel], laidTests := true, laidLooks := .later }
def FnExactCoverOfUptoCardSaid : Prop := Claim7.holds Tryd.pinned (.plain (OpenSpec.upto fnExactCoverOfSpec)) fnExactCoverOfUptoCard
end Rows
end Go.Proofs.YtonhndiflhbkiaaDoor
