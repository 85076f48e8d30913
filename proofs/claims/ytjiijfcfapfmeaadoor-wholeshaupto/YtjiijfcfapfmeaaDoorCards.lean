/-
  DERIVED. GIVEN WITH THE SEED: THE CARDS: each row of YtjiijfcfapfmeaaDoorRows.lean that lists a variable, with what it lists TIED to the program's text (the seventh form; the later family's looks); each row that meets fmt, with fmt's text TOLD by the authors' own Lean function (tested against real Go, not proved from fmt's source: count such statements apart). THE CARD IS WHAT COUNTS. Prove the row's statement (the work); the ties are given (YtjiijfcfapfmeaaDoorTie.lean); close each card by the builder's one call (the guide's Derived/Test/ToyasCard.lean, 'card_holds'). Laid BY PROGRAM, IN A SANDBOX (cutbox-door.mjs). By AI agents, Wed Nov 11 2026. No macro, syntax, notation, axiom, sorry.
-/
import Derived.Test.YtjiijfcfapfmeaaDoorRows
import GoSem.ClaimSeven
namespace Go.Proofs.YtjiijfcfapfmeaaDoor
namespace Rows

/-- THE TIED CARD OF 'notarytop.WholeSha'. -/
def wholeShaCard : Claim7 := { stood := { row := wholeShaRow, standIns := [], harness := (true, "7f553d2524b2e95d9d486f3d8af317f9bda428effc818cbefb5da9333cecae41"), looks := false }, kinds := [], alts := [], laidByText := true, laidKinds := [.data, .data], laidTests := true, laidLooks := .later }
def WholeShaCardSaid : Prop := Claim7.holds Tryd.pinned (.plain (OpenSpec.ofChange wholeShaSpec)) wholeShaCard

/-- THE SECOND FORM's CARD OF 'notarytop.WholeSha'. -/
def wholeShaUptoCard : Claim7 := { stood := { row := wholeShaUptoRow, standIns := [], harness := (true, "7f553d2524b2e95d9d486f3d8af317f9bda428effc818cbefb5da9333cecae41"), looks := false }, kinds := [], alts := [], laidByText := true, laidKinds := [.data, .data], laidTests := true, laidLooks := .later }
def WholeShaUptoCardSaid : Prop := Claim7.holds Tryd.pinned (.plain (OpenSpec.upto wholeShaSpec)) wholeShaUptoCard
end Rows
end Go.Proofs.YtjiijfcfapfmeaaDoor
