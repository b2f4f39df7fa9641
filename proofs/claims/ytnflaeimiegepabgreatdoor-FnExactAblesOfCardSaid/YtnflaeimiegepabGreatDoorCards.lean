/-
  DERIVED. GIVEN WITH THE SEED: THE CARDS: each row of YtnflaeimiegepabGreatDoorRows.lean that lists a variable, with what it lists TIED to the program's text (the seventh form; the later family's looks); each row that meets fmt, with fmt's text TOLD by the authors' own Lean function (tested against real Go, not proved from fmt's source: count such statements apart). THE CARD IS WHAT COUNTS. Prove the row's statement (the work); the ties are given (YtnflaeimiegepabGreatDoorTie.lean); close each card by the builder's one call (the guide's Derived/Test/ToyasCard.lean, 'card_holds'). Laid BY PROGRAM, IN A SANDBOX (cutbox-door.mjs). By AI agents, Wed Nov 11 2026. No macro, syntax, notation, axiom, sorry.
-/
import Derived.Test.YtnflaeimiegepabGreatDoorRows
import GoSem.ClaimSeven
namespace Go.Proofs.YtnflaeimiegepabGreatDoor
namespace Rows

/-- THE TIED CARD OF 'laws.FnExactAblesOf'. -/
def fnExactAblesOfCard : Claim7 := { stood := { row := fnExactAblesOfRow, standIns := [], harness := (true, "1ee056bb0f541ab975e08ceffe1ada0c6cb3705758f3589bd2e8fd25c9cd5de6"), looks := false }, kinds := [], alts := [], laidByText := true, laidKinds := [.sentinel, .sentinel, .sentinel], laidTests := true, laidLooks := .later }
def FnExactAblesOfCardSaid : Prop := Claim7.holds Tryz.pinned (.plain (OpenSpec.ofChange fnExactAblesOfSpec)) fnExactAblesOfCard

/-- THE TIED CARD OF 'laws.FnExactAbilityTable'. -/
def fnExactAbilityTableCard : Claim7 := { stood := { row := fnExactAbilityTableRow, standIns := [], harness := (true, "1ee056bb0f541ab975e08ceffe1ada0c6cb3705758f3589bd2e8fd25c9cd5de6"), looks := false }, kinds := [], alts := [], laidByText := true, laidKinds := [.sentinel, .sentinel, .sentinel], laidTests := true, laidLooks := .later }
def FnExactAbilityTableCardSaid : Prop := Claim7.holds Tryz.pinned (.plain (OpenSpec.ofChange fnExactAbilityTableSpec)) fnExactAbilityTableCard

/-- THE TIED CARD OF 'laws.FnExactImpossibleLifts'. -/
def fnExactImpossibleLiftsCard : Claim7 := { stood := { row := fnExactImpossibleLiftsRow, standIns := [], harness := (true, "1ee056bb0f541ab975e08ceffe1ada0c6cb3705758f3589bd2e8fd25c9cd5de6"), looks := false }, kinds := [], alts := [], laidByText := true, laidKinds := [.sentinel, .sentinel, .sentinel], laidTests := true, laidLooks := .later }
def FnExactImpossibleLiftsCardSaid : Prop := Claim7.holds Tryz.pinned (.plain (OpenSpec.ofChange fnExactImpossibleLiftsSpec)) fnExactImpossibleLiftsCard

/-- THE SECOND FORM's CARD OF 'laws.FnExactAblesOf'. -/
def fnExactAblesOfUptoCard : Claim7 := { stood := { row := fnExactAblesOfUptoRow, standIns := [], harness := (true, "1ee056bb0f541ab975e08ceffe1ada0c6cb3705758f3589bd2e8fd25c9cd5de6"), looks := false }, kinds := [], alts := [], laidByText := true, laidKinds := [.sentinel, .sentinel, .sentinel], laidTests := true, laidLooks := .later }
def FnExactAblesOfUptoCardSaid : Prop := Claim7.holds Tryz.pinned (.plain (OpenSpec.upto fnExactAblesOfSpec)) fnExactAblesOfUptoCard

/-- THE SECOND FORM's CARD OF 'laws.FnExactAbilityTable'. -/
def fnExactAbilityTableUptoCard : Claim7 := { stood := { row := fnExactAbilityTableUptoRow, standIns := [], harness := (true, "1ee056bb0f541ab975e08ceffe1ada0c6cb3705758f3589bd2e8fd25c9cd5de6"), looks := false }, kinds := [], alts := [], laidByText := true, laidKinds := [.sentinel, .sentinel, .sentinel], laidTests := true, laidLooks := .later }
def FnExactAbilityTableUptoCardSaid : Prop := Claim7.holds Tryz.pinned (.plain (OpenSpec.upto fnExactAbilityTableSpec)) fnExactAbilityTableUptoCard

/-- THE SECOND FORM's CARD OF 'laws.FnExactImpossibleLifts'. -/
def fnExactImpossibleLiftsUptoCard : Claim7 := { stood := { row := fnExactImpossibleLiftsUptoRow, standIns := [], harness := (true, "1ee056bb0f541ab975e08ceffe1ada0c6cb3705758f3589bd2e8fd25c9cd5de6"), looks := false }, kinds := [], alts := [], laidByText := true, laidKinds := [.sentinel, .sentinel, .sentinel], laidTests := true, laidLooks := .later }
def FnExactImpossibleLiftsUptoCardSaid : Prop := Claim7.holds Tryz.pinned (.plain (OpenSpec.upto fnExactImpossibleLiftsSpec)) fnExactImpossibleLiftsUptoCard
end Rows
end Go.Proofs.YtnflaeimiegepabGreatDoor
