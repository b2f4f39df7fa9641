/-
  DERIVED. GIVEN WITH THE SEED: THE CARDS: each row of YtedmpjgpgbmolaaDoorRows.lean that lists a variable, with what it lists TIED to the program's text (the seventh form; the later family's looks); each row that meets fmt, with fmt's text TOLD by the authors' own Lean function (tested against real Go, not proved from fmt's source: count such statements apart). THE CARD IS WHAT COUNTS. Prove the row's statement (the work); the ties are given (YtedmpjgpgbmolaaDoorTie.lean); close each card by the builder's one call (the guide's Derived/Test/ToyasCard.lean, 'card_holds'). Laid BY PROGRAM, IN A SANDBOX (cutbox-door.mjs). By AI agents, Wed Nov 11 2026. No macro, syntax, notation, axiom, sorry.
-/
import Derived.Test.YtedmpjgpgbmolaaDoorRows
import GoSem.ClaimSeven
namespace Go.Proofs.YtedmpjgpgbmolaaDoor
namespace Rows

/-- THE TIED CARD OF 'laws.FnExactSlingText'. -/
def fnExactSlingTextCard : Claim7 := { stood := { row := fnExactSlingTextRow, standIns := [], harness := (true, "8cdf59bc8e899d4070cf83f51674e9657464ffe4d142aaaea9566603dee4ba7a"), looks := false }, kinds := [], alts := [], laidByText := true, laidKinds := [.data, .data, .data], laidTests := true, laidLooks := .later }
def FnExactSlingTextCardSaid : Prop := Claim7.holds Tryd.pinned (.plain (OpenSpec.ofChange fnExactSlingTextSpec)) fnExactSlingTextCard

/-- THE SECOND FORM's CARD OF 'laws.FnExactSlingText'. -/
def fnExactSlingTextUptoCard : Claim7 := { stood := { row := fnExactSlingTextUptoRow, standIns := [], harness := (true, "8cdf59bc8e899d4070cf83f51674e9657464ffe4d142aaaea9566603dee4ba7a"), looks := false }, kinds := [], alts := [], laidByText := true, laidKinds := [.data, .data, .data], laidTests := true, laidLooks := .later }
def FnExactSlingTextUptoCardSaid : Prop := Claim7.holds Tryd.pinned (.plain (OpenSpec.upto fnExactSlingTextSpec)) fnExactSlingTextUptoCard
end Rows
end Go.Proofs.YtedmpjgpgbmolaaDoor
