/-
  DERIVED. GIVEN WITH THE SEED: THE CARDS: each row of YtnflaeimiegepaaDoorRows.lean that lists a variable, with what it lists TIED to the program's text (the seventh form; the later family's looks); each row that meets fmt, with fmt's text TOLD by the authors' own Lean function (tested against real Go, not proved from fmt's source: count such statements apart). THE CARD IS WHAT COUNTS. Prove the row's statement (the work); the ties are given (YtnflaeimiegepaaDoorTie.lean); close each card by the builder's one call (the guide's Derived/Test/ToyasCard.lean, 'card_holds'). Laid BY PROGRAM, IN A SANDBOX (cutbox-door.mjs). By AI agents, Wed Nov 11 2026. No macro, syntax, notation, axiom, sorry.
-/
import Derived.Test.YtnflaeimiegepaaDoorRows
import GoSem.ClaimSeven
namespace Go.Proofs.YtnflaeimiegepaaDoor
namespace Rows

/-- THE TIED CARD OF 'laws.FnAbilities'. -/
def fnAbilitiesCard : Claim7 := { stood := { row := fnAbilitiesRow, standIns := [], harness := (true, "ad1ee3730a41c50f1c6c54583dab62ef1b7194baa6faf0b864da526e17e47bca"), looks := true }, kinds := [], alts := [], laidByText := true, laidKinds := [.sentinel, .sentinel, .sentinel], laidTests := true, laidLooks := .later }
def FnAbilitiesCardSaid : Prop := Claim7.holds Tryd.pinned (.plain (OpenSpec.ofChange fnAbilitiesSpec)) fnAbilitiesCard

/-- THE TIED CARD OF 'laws.FnHeaviest'. -/
def fnHeaviestCard : Claim7 := { stood := { row := fnHeaviestRow, standIns := [], harness := (true, "ad1ee3730a41c50f1c6c54583dab62ef1b7194baa6faf0b864da526e17e47bca"), looks := true }, kinds := [], alts := [], laidByText := true, laidKinds := [.data, .sentinel, .sentinel, .sentinel], laidTests := true, laidLooks := .later }
def FnHeaviestCardSaid : Prop := Claim7.holds Tryd.pinned (.plain (OpenSpec.ofChange fnHeaviestSpec)) fnHeaviestCard

/-- THE TIED CARD OF 'laws.FnTimes'. -/
def fnTimesCard : Claim7 := { stood := { row := fnTimesRow, standIns := [], harness := (true, "ad1ee3730a41c50f1c6c54583dab62ef1b7194baa6faf0b864da526e17e47bca"), looks := true }, kinds := [], alts := [], laidByText := true, laidKinds := [.data], laidTests := true, laidLooks := .later }
def FnTimesCardSaid : Prop := Claim7.holds Tryd.pinned (.plain (OpenSpec.ofChange fnTimesSpec)) fnTimesCard

/-- THE TIED CARD OF 'laws.FnExactZoneText'. -/
def fnExactZoneTextCard : Claim7 := { stood := { row := fnExactZoneTextRow, standIns := [], harness := (true, "ad1ee3730a41c50f1c6c54583dab62ef1b7194baa6faf0b864da526e17e47bca"), looks := true }, kinds := [], alts := [], laidByText := true, laidKinds := [.data, .data, .data, .data], laidTests := true, laidLooks := .later }
def FnExactZoneTextCardSaid : Prop := Claim7.holds Tryd.pinned (.plain (OpenSpec.ofChange fnExactZoneTextSpec)) fnExactZoneTextCard

/-- THE TIED CARD OF 'laws.FnExactReadZone'. -/
def fnExactReadZoneCard : Claim7 := { stood := { row := fnExactReadZoneRow, standIns := [], harness := (true, "ad1ee3730a41c50f1c6c54583dab62ef1b7194baa6faf0b864da526e17e47bca"), looks := true }, kinds := [], alts := [], laidByText := true, laidKinds := [.data, .data, .data, .sentinel, .sentinel, .data], laidTests := true, laidLooks := .later }
def FnExactReadZoneCardSaid : Prop := Claim7.holds Tryd.pinned (.plain (OpenSpec.ofChange fnExactReadZoneSpec)) fnExactReadZoneCard

/-- THE TIED CARD OF 'laws.FnExactLiftDirections'. -/
def fnExactLiftDirectionsCard : Claim7 := { stood := { row := fnExactLiftDirectionsRow, standIns := [], harness := (true, "ad1ee3730a41c50f1c6c54583dab62ef1b7194baa6faf0b864da526e17e47bca"), looks := true }, kinds := [], alts := [], laidByText := true, laidKinds := [.data], laidTests := true, laidLooks := .later }
def FnExactLiftDirectionsCardSaid : Prop := Claim7.holds Tryd.pinned (.plain (OpenSpec.ofChange fnExactLiftDirectionsSpec)) fnExactLiftDirectionsCard

/-- THE SECOND FORM's CARD OF 'laws.FnAbilities'. -/
def fnAbilitiesUptoCard : Claim7 := { stood := { row := fnAbilitiesUptoRow, standIns := [], harness := (true, "ad1ee3730a41c50f1c6c54583dab62ef1b7194baa6faf0b864da526e17e47bca"), looks := true }, kinds := [], alts := [], laidByText := true, laidKinds := [.sentinel, .sentinel, .sentinel], laidTests := true, laidLooks := .later }
def FnAbilitiesUptoCardSaid : Prop := Claim7.holds Tryd.pinned (.plain (OpenSpec.upto fnAbilitiesSpec)) fnAbilitiesUptoCard

/-- THE SECOND FORM's CARD OF 'laws.FnHeaviest'. -/
def fnHeaviestUptoCard : Claim7 := { stood := { row := fnHeaviestUptoRow, standIns := [], harness := (true, "ad1ee3730a41c50f1c6c54583dab62ef1b7194baa6faf0b864da526e17e47bca"), looks := true }, kinds := [], alts := [], laidByText := true, laidKinds := [.data, .sentinel, .sentinel, .sentinel], laidTests := true, laidLooks := .later }
def FnHeaviestUptoCardSaid : Prop := Claim7.holds Tryd.pinned (.plain (OpenSpec.upto fnHeaviestSpec)) fnHeaviestUptoCard

/-- THE SECOND FORM's CARD OF 'laws.FnTimes'. -/
def fnTimesUptoCard : Claim7 := { stood := { row := fnTimesUptoRow, standIns := [], harness := (true, "ad1ee3730a41c50f1c6c54583dab62ef1b7194baa6faf0b864da526e17e47bca"), looks := true }, kinds := [], alts := [], laidByText := true, laidKinds := [.data], laidTests := true, laidLooks := .later }
def FnTimesUptoCardSaid : Prop := Claim7.holds Tryd.pinned (.plain (OpenSpec.upto fnTimesSpec)) fnTimesUptoCard

/-- THE SECOND FORM's CARD OF 'laws.FnExactZoneText'. -/
def fnExactZoneTextUptoCard : Claim7 := { stood := { row := fnExactZoneTextUptoRow, standIns := [], harness := (true, "ad1ee3730a41c50f1c6c54583dab62ef1b7194baa6faf0b864da526e17e47bca"), looks := true }, kinds := [], alts := [], laidByText := true, laidKinds := [.data, .data, .data, .data], laidTests := true, laidLooks := .later }
def FnExactZoneTextUptoCardSaid : Prop := Claim7.holds Tryd.pinned (.plain (OpenSpec.upto fnExactZoneTextSpec)) fnExactZoneTextUptoCard

/-- THE SECOND FORM's CARD OF 'laws.FnExactReadZone'. -/
def fnExactReadZoneUptoCard : Claim7 := { stood := { row := fnExactReadZoneUptoRow, standIns := [], harness := (true, "ad1ee3730a41c50f1c6c54583dab62ef1b7194baa6faf0b864da526e17e47bca"), looks := true }, kinds := [], alts := [], laidByText := true, laidKinds := [.data, .data, .data, .sentinel, .sentinel, .data], laidTests := true, laidLooks := .later }
def FnExactReadZoneUptoCardSaid : Prop := Claim7.holds Tryd.pinned (.plain (OpenSpec.upto fnExactReadZoneSpec)) fnExactReadZoneUptoCard

/-- THE SECOND FORM's CARD OF 'laws.FnExactLiftDirections'. -/
def fnExactLiftDirectionsUptoCard : Claim7 := { stood := { row := fnExactLiftDirectionsUptoRow, standIns := [], harness := (true, "ad1ee3730a41c50f1c6c54583dab62ef1b7194baa6faf0b864da526e17e47bca"), looks := true }, kinds := [], alts := [], laidByText := true, laidKinds := [.data], laidTests := true, laidLooks := .later }
def FnExactLiftDirectionsUptoCardSaid : Prop := Claim7.holds Tryd.pinned (.plain (OpenSpec.upto fnExactLiftDirectionsSpec)) fnExactLiftDirectionsUptoCard
end Rows
end Go.Proofs.YtnflaeimiegepaaDoor
