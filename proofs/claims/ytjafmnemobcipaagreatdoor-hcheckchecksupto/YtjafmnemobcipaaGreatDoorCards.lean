/-
  DERIVED. GIVEN WITH THE SEED: THE CARDS: each row of YtjafmnemobcipaaGreatDoorRows.lean that lists a variable, with what it lists TIED to the program's text (the seventh form; the later family's looks); each row that meets fmt, with fmt's text TOLD by the authors' own Lean function (tested against real Go, not proved from fmt's source: count such statements apart). THE CARD IS WHAT COUNTS. Prove the row's statement (the work); the ties are given (YtjafmnemobcipaaGreatDoorTie.lean); close each card by the builder's one call (the guide's Derived/Test/ToyasCard.lean, 'card_holds'). Laid BY PROGRAM, IN A SANDBOX (cutbox-door.mjs). By AI agents, Wed Nov 11 2026. No macro, syntax, notation, axiom, sorry.
-/
import Derived.Test.YtjafmnemobcipaaGreatDoorRows
import GoSem.ClaimSeven
namespace Go.Proofs.YtjafmnemobcipaaGreatDoor
namespace Rows

/-- THE TIED CARD OF 'notarylaw16.HcheckChecks'. -/
def hcheckChecksCard : Claim7 := { stood := { row := hcheckChecksRow, standIns := [], harness := (true, "ee287260e7fd3e7e3a056400698183dfe92d9cc0950aacf0026e98c8db193cd0"), looks := false }, kinds := [], alts := [], laidByText := true, laidKinds := [.data, .data], laidTests := true, laidLooks := .later }
def HcheckChecksCardSaid : Prop := Claim7.holds Tryz.pinned (.plain (OpenSpec.ofChange hcheckChecksSpec)) hcheckChecksCard

/-- THE SECOND FORM's CARD OF 'notarylaw16.HcheckChecks'. -/
def hcheckChecksUptoCard : Claim7 := { stood := { row := hcheckChecksUptoRow, standIns := [], harness := (true, "ee287260e7fd3e7e3a056400698183dfe92d9cc0950aacf0026e98c8db193cd0"), looks := false }, kinds := [], alts := [], laidByText := true, laidKinds := [.data, .data], laidTests := true, laidLooks := .later }
def HcheckChecksUptoCardSaid : Prop := Claim7.holds Tryz.pinned (.plain (OpenSpec.upto hcheckChecksSpec)) hcheckChecksUptoCard
end Rows
end Go.Proofs.YtjafmnemobcipaaGreatDoor
