/-
  DERIVED. GIVEN WITH THE SEED: THE CARDS: each row of YtapnihkgalbddabDoorRows.lean that lists a variable, with what it lists TIED to the program's text (the seventh form; the later family's looks); each row that meets fmt, with fmt's text TOLD by the authors' own Lean function (tested against real Go, not proved from fmt's source: count such statements apart). THE CARD IS WHAT COUNTS. Prove the row's statement (the work); the ties are given (YtapnihkgalbddabDoorTie.lean); close each card by the builder's one call (the guide's Derived/Test/ToyasCard.lean, 'card_holds'). Laid BY PROGRAM, IN A SANDBOX (cutbox-door.mjs). By AI agents, Wed Nov 11 2026. No macro, syntax, notation, axiom, sorry.
-/
import Derived.Test.YtapnihkgalbddabDoorRows
import GoSem.ClaimSeven
namespace Go.Proofs.YtapnihkgalbddabDoor
namespace Rows

/-- THE TIED CARD OF 'laws.FnExactChartText'. -/
def fnExactChartTextCard : Claim7 := { stood := { row := fnExactChartTextRow, standIns := [], harness := (true, "94eb12a32fd6dd638422d9fca719726733421968e72bc7cd36188cbc17abfdbf"), looks := true }, kinds := [], alts := [], laidByText := true, laidKinds := [.data, .data, .data], laidTests := true, laidLooks := .later }
def FnExactChartTextCardSaid : Prop := Claim7.holds Tryd.pinned (.plain (OpenSpec.ofChange fnExactChartTextSpec)) fnExactChartTextCard

/-- THE TIED CARD OF 'laws.FnExactReadChart'. -/
def fnExactReadChartCard : Claim7 := { stood := { row := fnExactReadChartRow, standIns := [], harness := (true, "94eb12a32fd6dd638422d9fca719726733421968e72bc7cd36188cbc17abfdbf"), looks := true }, kinds := [], alts := [], laidByText := true, laidKinds := [.data, .data, .data, .sentinel, .sentinel], laidTests := true, laidLooks := .later }
def FnExactReadChartCardSaid : Prop := Claim7.holds Tryd.pinned (.plain (OpenSpec.ofChange fnExactReadChartSpec)) fnExactReadChartCard

/-- THE SECOND FORM's CARD OF 'laws.FnExactChartText'. -/
def fnExactChartTextUptoCard : Claim7 := { stood := { row := fnExactChartTextUptoRow, standIns := [], harness := (true, "94eb12a32fd6dd638422d9fca719726733421968e72bc7cd36188cbc17abfdbf"), looks := true }, kinds := [], alts := [], laidByText := true, laidKinds := [.data, .data, .data], laidTests := true, laidLooks := .later }
def FnExactChartTextUptoCardSaid : Prop := Claim7.holds Tryd.pinned (.plain (OpenSpec.upto fnExactChartTextSpec)) fnExactChartTextUptoCard

/-- THE SECOND FORM's CARD OF 'laws.FnExactReadChart'. -/
def fnExactReadChartUptoCard : Claim7 := { stood := { row := fnExactReadChartUptoRow, standIns := [], harness := (true, "94eb12a32fd6dd638422d9fca719726733421968e72bc7cd36188cbc17abfdbf"), looks := true }, kinds := [], alts := [], laidByText := true, laidKinds := [.data, .data, .data, .sentinel, .sentinel], laidTests := true, laidLooks := .later }
def FnExactReadChartUptoCardSaid : Prop := Claim7.holds Tryd.pinned (.plain (OpenSpec.upto fnExactReadChartSpec)) fnExactReadChartUptoCard
end Rows
end Go.Proofs.YtapnihkgalbddabDoor
