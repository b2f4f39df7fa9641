/-
  DERIVED. GIVEN WITH THE SEED: THE CARDS: each row of YtnflaeimiegepacGreatDoorRows.lean that lists a variable, with what it lists TIED to the program's text (the seventh form; the later family's looks); each row that meets fmt, with fmt's text TOLD by the authors' own Lean function (tested against real Go, not proved from fmt's source: count such statements apart). THE CARD IS WHAT COUNTS. Prove the row's statement (the work); the ties are given (YtnflaeimiegepacGreatDoorTie.lean); close each card by the builder's one call (the guide's Derived/Test/ToyasCard.lean, 'card_holds'). Laid BY PROGRAM, IN A SANDBOX (cutbox-door.mjs). By AI agents, Wed Nov 11 2026. No macro, syntax, notation, axiom, sorry.
-/
import Derived.Test.YtnflaeimiegepacGreatDoorRows
import GoSem.ClaimSeven
namespace Go.Proofs.YtnflaeimiegepacGreatDoor
namespace Rows

/-- THE TIED CARD OF 'laws.FnExactLiftTime'. -/
def fnExactLiftTimeCard : Claim7 := { stood := { row := fnExactLiftTimeRow, standIns := [], harness := (true, "7098d8840a7ff3a4c65c14b0987710e50e49e139c34239e43b4a9bd740b5e80d"), looks := false }, kinds := [], alts := [], laidByText := true, laidKinds := [.data], laidTests := true, laidLooks := .later }
def FnExactLiftTimeCardSaid : Prop := Claim7.holds Tryz.pinned (.plain (OpenSpec.ofChange fnExactLiftTimeSpec)) fnExactLiftTimeCard

/-- THE TIED CARD OF 'laws.FnExactJobTime'. -/
def fnExactJobTimeCard : Claim7 := { stood := { row := fnExactJobTimeRow, standIns := [], harness := (true, "7098d8840a7ff3a4c65c14b0987710e50e49e139c34239e43b4a9bd740b5e80d"), looks := false }, kinds := [], alts := [], laidByText := true, laidKinds := [.data], laidTests := true, laidLooks := .later }
def FnExactJobTimeCardSaid : Prop := Claim7.holds Tryz.pinned (.plain (OpenSpec.ofChange fnExactJobTimeSpec)) fnExactJobTimeCard

/-- THE TIED CARD OF 'laws.FnExactTimeTable'. -/
def fnExactTimeTableCard : Claim7 := { stood := { row := fnExactTimeTableRow, standIns := [], harness := (true, "7098d8840a7ff3a4c65c14b0987710e50e49e139c34239e43b4a9bd740b5e80d"), looks := false }, kinds := [], alts := [], laidByText := true, laidKinds := [.data, .sentinel, .sentinel, .sentinel], laidTests := true, laidLooks := .later }
def FnExactTimeTableCardSaid : Prop := Claim7.holds Tryz.pinned (.plain (OpenSpec.ofChange fnExactTimeTableSpec)) fnExactTimeTableCard

/-- THE TIED CARD OF 'laws.FnExactFastestCrane'. -/
def fnExactFastestCraneCard : Claim7 := { stood := { row := fnExactFastestCraneRow, standIns := [], harness := (true, "7098d8840a7ff3a4c65c14b0987710e50e49e139c34239e43b4a9bd740b5e80d"), looks := false }, kinds := [], alts := [], laidByText := true, laidKinds := [.data, .sentinel, .sentinel, .sentinel], laidTests := true, laidLooks := .later }
def FnExactFastestCraneCardSaid : Prop := Claim7.holds Tryz.pinned (.plain (OpenSpec.ofChange fnExactFastestCraneSpec)) fnExactFastestCraneCard

/-- THE SECOND FORM's CARD OF 'laws.FnExactLiftTime'. -/
def fnExactLiftTimeUptoCard : Claim7 := { stood := { row := fnExactLiftTimeUptoRow, standIns := [], harness := (true, "7098d8840a7ff3a4c65c14b0987710e50e49e139c34239e43b4a9bd740b5e80d"), looks := false }, kinds := [], alts := [], laidByText := true, laidKinds := [.data], laidTests := true, laidLooks := .later }
def FnExactLiftTimeUptoCardSaid : Prop := Claim7.holds Tryz.pinned (.plain (OpenSpec.upto fnExactLiftTimeSpec)) fnExactLiftTimeUptoCard

/-- THE SECOND FORM's CARD OF 'laws.FnExactJobTime'. -/
def fnExactJobTimeUptoCard : Claim7 := { stood := { row := fnExactJobTimeUptoRow, standIns := [], harness := (true, "7098d8840a7ff3a4c65c14b0987710e50e49e139c34239e43b4a9bd740b5e80d"), looks := false }, kinds := [], alts := [], laidByText := true, laidKinds := [.data], laidTests := true, laidLooks := .later }
def FnExactJobTimeUptoCardSaid : Prop := Claim7.holds Tryz.pinned (.plain (OpenSpec.upto fnExactJobTimeSpec)) fnExactJobTimeUptoCard

/-- THE SECOND FORM's CARD OF 'laws.FnExactTimeTable'. -/
def fnExactTimeTableUptoCard : Claim7 := { stood := { row := fnExactTimeTableUptoRow, standIns := [], harness := (true, "7098d8840a7ff3a4c65c14b0987710e50e49e139c34239e43b4a9bd740b5e80d"), looks := false }, kinds := [], alts := [], laidByText := true, laidKinds := [.data, .sentinel, .sentinel, .sentinel], laidTests := true, laidLooks := .later }
def FnExactTimeTableUptoCardSaid : Prop := Claim7.holds Tryz.pinned (.plain (OpenSpec.upto fnExactTimeTableSpec)) fnExactTimeTableUptoCard

/-- THE SECOND FORM's CARD OF 'laws.FnExactFastestCrane'. -/
def fnExactFastestCraneUptoCard : Claim7 := { stood := { row := fnExactFastestCraneUptoRow, standIns := [], harness := (true, "7098d8840a7ff3a4c65c14b0987710e50e49e139c34239e43b4a9bd740b5e80d"), looks := false }, kinds := [], alts := [], laidByText := true, laidKinds := [.data, .sentinel, .sentinel, .sentinel], laidTests := true, laidLooks := .later }
def FnExactFastestCraneUptoCardSaid : Prop := Claim7.holds Tryz.pinned (.plain (OpenSpec.upto fnExactFastestCraneSpec)) fnExactFastestCraneUptoCard
end Rows
end Go.Proofs.YtnflaeimiegepacGreatDoor
