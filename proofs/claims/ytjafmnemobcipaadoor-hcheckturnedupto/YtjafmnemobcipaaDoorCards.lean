/-
  DERIVED. GIVEN WITH THE SEED: THE CARDS: each row of YtjafmnemobcipaaDoorRows.lean that lists a variable, with what it lists TIED to the program's text (the seventh form; the later family's looks); each row that meets fmt, with fmt's text TOLD by the authors' own Lean function (tested against real Go, not proved from fmt's source: count such statements apart). THE CARD IS WHAT COUNTS. Prove the row's statement (the work); the ties are given (YtjafmnemobcipaaDoorTie.lean); close each card by the builder's one call (the guide's Derived/Test/ToyasCard.lean, 'card_holds'). Laid BY PROGRAM, IN A SANDBOX (cutbox-door.mjs). By AI agents, Wed Nov 11 2026. No macro, syntax, notation, axiom, sorry.
-/
import Derived.Test.YtjafmnemobcipaaDoorRows
import GoSem.ClaimSeven
namespace Go.Proofs.YtjafmnemobcipaaDoor
namespace Rows

/-- THE TIED CARD OF 'notarylaw16.HcheckBinds'. -/
def hcheckBindsCard : Claim7 := { stood := { row := hcheckBindsRow, standIns := [], harness := (true, "cce5b19eab16274504591481e7383e31bc8be8b31c728437918995a5d9f46acf"), looks := false }, kinds := [], alts := [], laidByText := true, laidKinds := [.data, .data], laidTests := true, laidLooks := .later }
def HcheckBindsCardSaid : Prop := Claim7.holds Tryd.pinned (.plain (OpenSpec.ofChange hcheckBindsSpec)) hcheckBindsCard

/-- THE TIED CARD OF 'notarylaw16.HcheckTurned'. -/
def hcheckTurnedCard : Claim7 := { stood := { row := hcheckTurnedRow, standIns := [], harness := (true, "cce5b19eab16274504591481e7383e31bc8be8b31c728437918995a5d9f46acf"), looks := false }, kinds := [], alts := [], laidByText := true, laidKinds := [.data, .data], laidTests := true, laidLooks := .later }
def HcheckTurnedCardSaid : Prop := Claim7.holds Tryd.pinned (.plain (OpenSpec.ofChange hcheckTurnedSpec)) hcheckTurnedCard

/-- THE SECOND FORM's CARD OF 'notarylaw16.HcheckBinds'. -/
def hcheckBindsUptoCard : Claim7 := { stood := { row := hcheckBindsUptoRow, standIns := [], harness := (true, "cce5b19eab16274504591481e7383e31bc8be8b31c728437918995a5d9f46acf"), looks := false }, kinds := [], alts := [], laidByText := true, laidKinds := [.data, .data], laidTests := true, laidLooks := .later }
def HcheckBindsUptoCardSaid : Prop := Claim7.holds Tryd.pinned (.plain (OpenSpec.upto hcheckBindsSpec)) hcheckBindsUptoCard

/-- THE SECOND FORM's CARD OF 'notarylaw16.HcheckTurned'. -/
def hcheckTurnedUptoCard : Claim7 := { stood := { row := hcheckTurnedUptoRow, standIns := [], harness := (true, "cce5b19eab16274504591481e7383e31bc8be8b31c728437918995a5d9f46acf"), looks := false }, kinds := [], alts := [], laidByText := true, laidKinds := [.data, .data], laidTests := true, laidLooks := .later }
def HcheckTurnedUptoCardSaid : Prop := Claim7.holds Tryd.pinned (.plain (OpenSpec.upto hcheckTurnedSpec)) hcheckTurnedUptoCard
end Rows
end Go.Proofs.YtjafmnemobcipaaDoor
