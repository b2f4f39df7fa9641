/-
  DERIVED. GIVEN WITH THE SEED: THE CARDS: each row of YtjddpbpambnlgabDoorRows.lean that lists a variable, with what it lists TIED to the program's text (the seventh form; the later family's looks); each row that meets fmt, with fmt's text TOLD by the authors' own Lean function (tested against real Go, not proved from fmt's source: count such statements apart). THE CARD IS WHAT COUNTS. Prove the row's statement (the work); the ties are given (YtjddpbpambnlgabDoorTie.lean); close each card by the builder's one call (the guide's Derived/Test/ToyasCard.lean, 'card_holds'). Laid BY PROGRAM, IN A SANDBOX (cutbox-door.mjs). By AI agents, Wed Nov 11 2026. No macro, syntax, notation, axiom, sorry.
-/
import Derived.Test.YtjddpbpambnlgabDoorRows
import GoSem.ClaimSeven
namespace Go.Proofs.YtjddpbpambnlgabDoor
namespace Rows

/-- THE TIED CARD OF 'laws.FnExactDirectionTo'. -/
def fnExactDirectionToCard : Claim7 := { stood := { row := fnExactDirectionToRow, standIns := [], harness := (true, "8da06fc78147853d67138b2e7661c8180c450d4114d246f2ca79028fda594047"), looks := false }, kinds := [], alts := [], laidByText := true, laidKinds := [.data], laidTests := true, laidLooks := .later }
def FnExactDirectionToCardSaid : Prop := Claim7.holds Tryd.pinned (.plain (OpenSpec.ofChange fnExactDirectionToSpec)) fnExactDirectionToCard

/-- THE SECOND FORM's CARD OF 'laws.FnExactDirectionTo'. -/
def fnExactDirectionToUptoCard : Claim7 := { stood := { row := fnExactDirectionToUptoRow, standIns := [], harness := (true, "8da06fc78147853d67138b2e7661c8180c450d4114d246f2ca79028fda594047"), looks := false }, kinds := [], alts := [], laidByText := true, laidKinds := [.data], laidTests := true, laidLooks := .later }
def FnExactDirectionToUptoCardSaid : Prop := Claim7.holds Tryd.pinned (.plain (OpenSpec.upto fnExactDirectionToSpec)) fnExactDirectionToUptoCard
end Rows
end Go.Proofs.YtjddpbpambnlgabDoor
