/-
  DERIVED. GIVEN WITH THE SEED: THE CARDS: each row of YtnflaeimiegepabDoorRows.lean that lists a variable, with what it lists TIED to the program's text (the seventh form; the later family's looks); each row that meets fmt, with fmt's text TOLD by the authors' own Lean function (tested against real Go, not proved from fmt's source: count such statements apart). THE CARD IS WHAT COUNTS. Prove the row's statement (the work); the ties are given (YtnflaeimiegepabDoorTie.lean); close each card by the builder's one call (the guide's Derived/Test/ToyasCard.lean, 'card_holds'). Laid BY PROGRAM, IN A SANDBOX (cutbox-door.mjs). By AI agents, Wed Nov 11 2026. No macro, syntax, notation, axiom, sorry.
-/
import Derived.Test.YtnflaeimiegepabDoorRows
import GoSem.ClaimSeven
namespace Go.Proofs.YtnflaeimiegepabDoor
namespace Rows

/-- THE TIED CARD OF 'laws.FnExactBestCrane'. -/
def fnExactBestCraneCard : Claim7 := { stood := { row := fnExactBestCraneRow, standIns := [], harness := (true, "eba3aded1a562d639b5e4f8dede1390797ab273eb8f823115aa220dc3d4a8edd"), looks := false }, kinds := [], alts := [], laidByText := true, laidKinds := [.sentinel, .sentinel, .sentinel], laidTests := true, laidLooks := .later }
def FnExactBestCraneCardSaid : Prop := Claim7.holds Tryd.pinned (.plain (OpenSpec.ofChange fnExactBestCraneSpec)) fnExactBestCraneCard

/-- THE TIED CARD OF 'laws.FnExactHeaviestAt'. -/
def fnExactHeaviestAtCard : Claim7 := { stood := { row := fnExactHeaviestAtRow, standIns := [], harness := (true, "eba3aded1a562d639b5e4f8dede1390797ab273eb8f823115aa220dc3d4a8edd"), looks := false }, kinds := [], alts := [], laidByText := true, laidKinds := [.sentinel, .sentinel, .sentinel], laidTests := true, laidLooks := .later }
def FnExactHeaviestAtCardSaid : Prop := Claim7.holds Tryd.pinned (.plain (OpenSpec.ofChange fnExactHeaviestAtSpec)) fnExactHeaviestAtCard

/-- THE TIED CARD OF 'laws.FnExactMoveTime'. -/
def fnExactMoveTimeCard : Claim7 := { stood := { row := fnExactMoveTimeRow, standIns := [], harness := (true, "eba3aded1a562d639b5e4f8dede1390797ab273eb8f823115aa220dc3d4a8edd"), looks := false }, kinds := [], alts := [], laidByText := true, laidKinds := [.data], laidTests := true, laidLooks := .later }
def FnExactMoveTimeCardSaid : Prop := Claim7.holds Tryd.pinned (.plain (OpenSpec.ofChange fnExactMoveTimeSpec)) fnExactMoveTimeCard

/-- THE SECOND FORM's CARD OF 'laws.FnExactBestCrane'. -/
def fnExactBestCraneUptoCard : Claim7 := { stood := { row := fnExactBestCraneUptoRow, standIns := [], harness := (true, "eba3aded1a562d639b5e4f8dede1390797ab273eb8f823115aa220dc3d4a8edd"), looks := false }, kinds := [], alts := [], laidByText := true, laidKinds := [.sentinel, .sentinel, .sentinel], laidTests := true, laidLooks := .later }
def FnExactBestCraneUptoCardSaid : Prop := Claim7.holds Tryd.pinned (.plain (OpenSpec.upto fnExactBestCraneSpec)) fnExactBestCraneUptoCard

/-- THE SECOND FORM's CARD OF 'laws.FnExactHeaviestAt'. -/
def fnExactHeaviestAtUptoCard : Claim7 := { stood := { row := fnExactHeaviestAtUptoRow, standIns := [], harness := (true, "eba3aded1a562d639b5e4f8dede1390797ab273eb8f823115aa220dc3d4a8edd"), looks := false }, kinds := [], alts := [], laidByText := true, laidKinds := [.sentinel, .sentinel, .sentinel], laidTests := true, laidLooks := .later }
def FnExactHeaviestAtUptoCardSaid : Prop := Claim7.holds Tryd.pinned (.plain (OpenSpec.upto fnExactHeaviestAtSpec)) fnExactHeaviestAtUptoCard

/-- THE SECOND FORM's CARD OF 'laws.FnExactMoveTime'. -/
def fnExactMoveTimeUptoCard : Claim7 := { stood := { row := fnExactMoveTimeUptoRow, standIns := [], harness := (true, "eba3aded1a562d639b5e4f8dede1390797ab273eb8f823115aa220dc3d4a8edd"), looks := false }, kinds := [], alts := [], laidByText := true, laidKinds := [.data], laidTests := true, laidLooks := .later }
def FnExactMoveTimeUptoCardSaid : Prop := Claim7.holds Tryd.pinned (.plain (OpenSpec.upto fnExactMoveTimeSpec)) fnExactMoveTimeUptoCard
end Rows
end Go.Proofs.YtnflaeimiegepabDoor
