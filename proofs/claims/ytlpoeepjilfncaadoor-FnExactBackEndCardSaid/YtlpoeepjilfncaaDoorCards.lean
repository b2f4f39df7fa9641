/-
  DERIVED. GIVEN WITH THE SEED: THE CARDS: each row of YtlpoeepjilfncaaDoorRows.lean that lists a variable, with what it lists TIED to the program's text (the seventh form; the later family's looks); each row that meets fmt, with fmt's text TOLD by the authors' own Lean function (tested against real Go, not proved from fmt's source: count such statements apart). THE CARD IS WHAT COUNTS. Prove the row's statement (the work); the ties are given (YtlpoeepjilfncaaDoorTie.lean); close each card by the builder's one call (the guide's Derived/Test/ToyasCard.lean, 'card_holds'). Laid BY PROGRAM, IN A SANDBOX (cutbox-door.mjs). By AI agents, Wed Nov 11 2026. No macro, syntax, notation, axiom, sorry.
-/
import Derived.Test.YtlpoeepjilfncaaDoorRows
import GoSem.ClaimSeven
namespace Go.Proofs.YtlpoeepjilfncaaDoor
namespace Rows

/-- THE TIED CARD OF 'laws.FnSites'. -/
def fnSitesCard : Claim7 := { stood := { row := fnSitesRow, standIns := [], harness := (true, "8b0fe4321ac5fc5d47b07832aae4c3bc24bb5c98ff67e3dfe9d75c6a63d84de3"), looks := true }, kinds := [], alts := [], laidByText := true, laidKinds := [.sentinel, .sentinel, .sentinel], laidTests := true, laidLooks := .later }
def FnSitesCardSaid : Prop := Claim7.holds Tryd.pinned (.plain (OpenSpec.ofChange fnSitesSpec)) fnSitesCard

/-- THE TIED CARD OF 'laws.FnExactValidSite'. -/
def fnExactValidSiteCard : Claim7 := { stood := { row := fnExactValidSiteRow, standIns := [], harness := (true, "8b0fe4321ac5fc5d47b07832aae4c3bc24bb5c98ff67e3dfe9d75c6a63d84de3"), looks := true }, kinds := [], alts := [], laidByText := true, laidKinds := [.sentinel, .sentinel, .sentinel], laidTests := true, laidLooks := .later }
def FnExactValidSiteCardSaid : Prop := Claim7.holds Tryd.pinned (.plain (OpenSpec.ofChange fnExactValidSiteSpec)) fnExactValidSiteCard

/-- THE TIED CARD OF 'laws.FnExactAddCrane'. -/
def fnExactAddCraneCard : Claim7 := { stood := { row := fnExactAddCraneRow, standIns := [], harness := (true, "8b0fe4321ac5fc5d47b07832aae4c3bc24bb5c98ff67e3dfe9d75c6a63d84de3"), looks := true }, kinds := [], alts := [], laidByText := true, laidKinds := [.sentinel, .sentinel, .sentinel], laidTests := true, laidLooks := .later }
def FnExactAddCraneCardSaid : Prop := Claim7.holds Tryd.pinned (.plain (OpenSpec.ofChange fnExactAddCraneSpec)) fnExactAddCraneCard

/-- THE TIED CARD OF 'laws.FnExactRemoveCrane'. -/
def fnExactRemoveCraneCard : Claim7 := { stood := { row := fnExactRemoveCraneRow, standIns := [], harness := (true, "8b0fe4321ac5fc5d47b07832aae4c3bc24bb5c98ff67e3dfe9d75c6a63d84de3"), looks := true }, kinds := [], alts := [], laidByText := true, laidKinds := [.sentinel, .sentinel, .sentinel], laidTests := true, laidLooks := .later }
def FnExactRemoveCraneCardSaid : Prop := Claim7.holds Tryd.pinned (.plain (OpenSpec.ofChange fnExactRemoveCraneSpec)) fnExactRemoveCraneCard

/-- THE TIED CARD OF 'laws.FnExactCraneNamed'. -/
def fnExactCraneNamedCard : Claim7 := { stood := { row := fnExactCraneNamedRow, standIns := [], harness := (true, "8b0fe4321ac5fc5d47b07832aae4c3bc24bb5c98ff67e3dfe9d75c6a63d84de3"), looks := true }, kinds := [], alts := [], laidByText := true, laidKinds := [.sentinel, .sentinel, .sentinel], laidTests := true, laidLooks := .later }
def FnExactCraneNamedCardSaid : Prop := Claim7.holds Tryd.pinned (.plain (OpenSpec.ofChange fnExactCraneNamedSpec)) fnExactCraneNamedCard

/-- THE TIED CARD OF 'laws.FnExactJibEnd'. -/
def fnExactJibEndCard : Claim7 := { stood := { row := fnExactJibEndRow, standIns := [], harness := (true, "8b0fe4321ac5fc5d47b07832aae4c3bc24bb5c98ff67e3dfe9d75c6a63d84de3"), looks := true }, kinds := [], alts := [], laidByText := true, laidKinds := [.data], laidTests := true, laidLooks := .later }
def FnExactJibEndCardSaid : Prop := Claim7.holds Tryd.pinned (.plain (OpenSpec.ofChange fnExactJibEndSpec)) fnExactJibEndCard

/-- THE TIED CARD OF 'laws.FnExactBackEnd'. -/
def fnExactBackEndCard : Claim7 := { stood := { row := fnExactBackEndRow, standIns := [], harness := (true, "8b0fe4321ac5fc5d47b07832aae4c3bc24bb5c98ff67e3dfe9d75c6a63d84de3"), looks := true }, kinds := [], alts := [], laidByText := true, laidKinds := [.data], laidTests := true, laidLooks := .later }
def FnExactBackEndCardSaid : Prop := Claim7.holds Tryd.pinned (.plain (OpenSpec.ofChange fnExactBackEndSpec)) fnExactBackEndCard

/-- THE TIED CARD OF 'laws.FnExactNeighboursOf'. -/
def fnExactNeighboursOfCard : Claim7 := { stood := { row := fnExactNeighboursOfRow, standIns := [], harness := (true, "8b0fe4321ac5fc5d47b07832aae4c3bc24bb5c98ff67e3dfe9d75c6a63d84de3"), looks := true }, kinds := [], alts := [], laidByText := true, laidKinds := [.sentinel, .sentinel, .sentinel], laidTests := true, laidLooks := .later }
def FnExactNeighboursOfCardSaid : Prop := Claim7.holds Tryd.pinned (.plain (OpenSpec.ofChange fnExactNeighboursOfSpec)) fnExactNeighboursOfCard

/-- THE SECOND FORM's CARD OF 'laws.FnSites'. -/
def fnSitesUptoCard : Claim7 := { stood := { row := fnSitesUptoRow, standIns := [], harness := (true, "8b0fe4321ac5fc5d47b07832aae4c3bc24bb5c98ff67e3dfe9d75c6a63d84de3"), looks := true }, kinds := [], alts := [], laidByText := true, laidKinds := [.sentinel, .sentinel, .sentinel], laidTests := true, laidLooks := .later }
def FnSitesUptoCardSaid : Prop := Claim7.holds Tryd.pinned (.plain (OpenSpec.upto fnSitesSpec)) fnSitesUptoCard

/-- THE SECOND FORM's CARD OF 'laws.FnExactValidSite'. -/
def fnExactValidSiteUptoCard : Claim7 := { stood := { row := fnExactValidSiteUptoRow, standIns := [], harness := (true, "8b0fe4321ac5fc5d47b07832aae4c3bc24bb5c98ff67e3dfe9d75c6a63d84de3"), looks := true }, kinds := [], alts := [], laidByText := true, laidKinds := [.sentinel, .sentinel, .sentinel], laidTests := true, laidLooks := .later }
def FnExactValidSiteUptoCardSaid : Prop := Claim7.holds Tryd.pinned (.plain (OpenSpec.upto fnExactValidSiteSpec)) fnExactValidSiteUptoCard

/-- THE SECOND FORM's CARD OF 'laws.FnExactAddCrane'. -/
def fnExactAddCraneUptoCard : Claim7 := { stood := { row := fnExactAddCraneUptoRow, standIns := [], harness := (true, "8b0fe4321ac5fc5d47b07832aae4c3bc24bb5c98ff67e3dfe9d75c6a63d84de3"), looks := true }, kinds := [], alts := [], laidByText := true, laidKinds := [.sentinel, .sentinel, .sentinel], laidTests := true, laidLooks := .later }
def FnExactAddCraneUptoCardSaid : Prop := Claim7.holds Tryd.pinned (.plain (OpenSpec.upto fnExactAddCraneSpec)) fnExactAddCraneUptoCard

/-- THE SECOND FORM's CARD OF 'laws.FnExactRemoveCrane'. -/
def fnExactRemoveCraneUptoCard : Claim7 := { stood := { row := fnExactRemoveCraneUptoRow, standIns := [], harness := (true, "8b0fe4321ac5fc5d47b07832aae4c3bc24bb5c98ff67e3dfe9d75c6a63d84de3"), looks := true }, kinds := [], alts := [], laidByText := true, laidKinds := [.sentinel, .sentinel, .sentinel], laidTests := true, laidLooks := .later }
def FnExactRemoveCraneUptoCardSaid : Prop := Claim7.holds Tryd.pinned (.plain (OpenSpec.upto fnExactRemoveCraneSpec)) fnExactRemoveCraneUptoCard

/-- THE SECOND FORM's CARD OF 'laws.FnExactCraneNamed'. -/
def fnExactCraneNamedUptoCard : Claim7 := { stood := { row := fnExactCraneNamedUptoRow, standIns := [], harness := (true, "8b0fe4321ac5fc5d47b07832aae4c3bc24bb5c98ff67e3dfe9d75c6a63d84de3"), looks := true }, kinds := [], alts := [], laidByText := true, laidKinds := [.sentinel, .sentinel, .sentinel], laidTests := true, laidLooks := .later }
def FnExactCraneNamedUptoCardSaid : Prop := Claim7.holds Tryd.pinned (.plain (OpenSpec.upto fnExactCraneNamedSpec)) fnExactCraneNamedUptoCard

/-- THE SECOND FORM's CARD OF 'laws.FnExactJibEnd'. -/
def fnExactJibEndUptoCard : Claim7 := { stood := { row := fnExactJibEndUptoRow, standIns := [], harness := (true, "8b0fe4321ac5fc5d47b07832aae4c3bc24bb5c98ff67e3dfe9d75c6a63d84de3"), looks := true }, kinds := [], alts := [], laidByText := true, laidKinds := [.data], laidTests := true, laidLooks := .later }
def FnExactJibEndUptoCardSaid : Prop := Claim7.holds Tryd.pinned (.plain (OpenSpec.upto fnExactJibEndSpec)) fnExactJibEndUptoCard

/-- THE SECOND FORM's CARD OF 'laws.FnExactBackEnd'. -/
def fnExactBackEndUptoCard : Claim7 := { stood := { row := fnExactBackEndUptoRow, standIns := [], harness := (true, "8b0fe4321ac5fc5d47b07832aae4c3bc24bb5c98ff67e3dfe9d75c6a63d84de3"), looks := true }, kinds := [], alts := [], laidByText := true, laidKinds := [.data], laidTests := true, laidLooks := .later }
def FnExactBackEndUptoCardSaid : Prop := Claim7.holds Tryd.pinned (.plain (OpenSpec.upto fnExactBackEndSpec)) fnExactBackEndUptoCard

/-- THE SECOND FORM's CARD OF 'laws.FnExactNeighboursOf'. -/
def fnExactNeighboursOfUptoCard : Claim7 := { stood := { row := fnExactNeighboursOfUptoRow, standIns := [], harness := (true, "8b0fe4321ac5fc5d47b07832aae4c3bc24bb5c98ff67e3dfe9d75c6a63d84de3"), looks := true }, kinds := [], alts := [], laidByText := true, laidKinds := [.sentinel, .sentinel, .sentinel], laidTests := true, laidLooks := .later }
def FnExactNeighboursOfUptoCardSaid : Prop := Claim7.holds Tryd.pinned (.plain (OpenSpec.upto fnExactNeighboursOfSpec)) fnExactNeighboursOfUptoCard
end Rows
end Go.Proofs.YtlpoeepjilfncaaDoor
