/-
  DERIVED. GIVEN WITH THE SEED: THE CARDS: each row of YtmgjdcpfeihioaaDoorRows.lean that lists a variable, with what it lists TIED to the program's text (the seventh form; the later family's looks); each row that meets fmt, with fmt's text TOLD by the authors' own Lean function (tested against real Go, not proved from fmt's source: count such statements apart). THE CARD IS WHAT COUNTS. Prove the row's statement (the work); the ties are given (YtmgjdcpfeihioaaDoorTie.lean); close each card by the builder's one call (the guide's Derived/Test/ToyasCard.lean, 'card_holds'). Laid BY PROGRAM, IN A SANDBOX (cutbox-door.mjs). By AI agents, Wed Nov 11 2026. No macro, syntax, notation, axiom, sorry.
-/
import Derived.Test.YtmgjdcpfeihioaaDoorRows
import GoSem.ClaimSeven
namespace Go.Proofs.YtmgjdcpfeihioaaDoor
namespace Rows

/-- THE TIED CARD OF 'notarylaw12.McheckShows'. -/
def mcheckShowsCard : Claim7 := { stood := { row := mcheckShowsRow, standIns := [], harness := (true, "32c27d5fd8c04335b24550c38491be55522dadfec5c1f038544013a64174aa38"), looks := false }, kinds := [], alts := [], laidByText := true, laidKinds := [.data, .data], laidTests := true, laidLooks := .later }
def McheckShowsCardSaid : Prop := Claim7.holds Tryd.pinned (.plain (OpenSpec.ofChange mcheckShowsSpec)) mcheckShowsCard

/-- THE SECOND FORM's CARD OF 'notarylaw12.McheckShows'. -/
def mcheckShowsUptoCard : Claim7 := { stood := { row := mcheckShowsUptoRow, standIns := [], harness := (true, "32c27d5fd8c04335b24550c38491be55522dadfec5c1f038544013a64174aa38"), looks := false }, kinds := [], alts := [], laidByText := true, laidKinds := [.data, .data], laidTests := true, laidLooks := .later }
def McheckShowsUptoCardSaid : Prop := Claim7.holds Tryd.pinned (.plain (OpenSpec.upto mcheckShowsSpec)) mcheckShowsUptoCard
end Rows
end Go.Proofs.YtmgjdcpfeihioaaDoor
