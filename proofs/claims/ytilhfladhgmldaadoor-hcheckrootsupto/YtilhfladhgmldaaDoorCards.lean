/-
  DERIVED. GIVEN WITH THE SEED: THE CARDS: each row of YtilhfladhgmldaaDoorRows.lean that lists a variable, with what it lists TIED to the program's text (the seventh form; the later family's looks); each row that meets fmt, with fmt's text TOLD by the authors' own Lean function (tested against real Go, not proved from fmt's source: count such statements apart). THE CARD IS WHAT COUNTS. Prove the row's statement (the work); the ties are given (YtilhfladhgmldaaDoorTie.lean); close each card by the builder's one call (the guide's Derived/Test/ToyasCard.lean, 'card_holds'). Laid BY PROGRAM, IN A SANDBOX (cutbox-door.mjs). By AI agents, Wed Nov 11 2026. No macro, syntax, notation, axiom, sorry.
-/
import Derived.Test.YtilhfladhgmldaaDoorRows
import GoSem.ClaimSeven
namespace Go.Proofs.YtilhfladhgmldaaDoor
namespace Rows

/-- THE TIED CARD OF 'notarylaw16.HcheckRoots'. -/
def hcheckRootsCard : Claim7 := { stood := { row := hcheckRootsRow, standIns := [], harness := (true, "41183a6a4bcf44f7a0cae07a122ef37f719d708de27e2c6988706d1c0465ffbf"), looks := false }, kinds := [], alts := [], laidByText := true, laidKinds := [.data, .data], laidTests := true, laidLooks := .later }
def HcheckRootsCardSaid : Prop := Claim7.holds Tryd.pinned (.plain (OpenSpec.ofChange hcheckRootsSpec)) hcheckRootsCard

/-- THE TIED CARD OF 'notarylaw16.HcheckAgrees'. -/
def hcheckAgreesCard : Claim7 := { stood := { row := hcheckAgreesRow, standIns := [], harness := (true, "41183a6a4bcf44f7a0cae07a122ef37f719d708de27e2c6988706d1c0465ffbf"), looks := false }, kinds := [], alts := [], laidByText := true, laidKinds := [.data, .data], laidTests := true, laidLooks := .later }
def HcheckAgreesCardSaid : Prop := Claim7.holds Tryd.pinned (.plain (OpenSpec.ofChange hcheckAgreesSpec)) hcheckAgreesCard

/-- THE TIED CARD OF 'notarylaw16.HcheckBinds'. -/
def hcheckBindsCard : Claim7 := { stood := { row := hcheckBindsRow, standIns := [], harness := (true, "41183a6a4bcf44f7a0cae07a122ef37f719d708de27e2c6988706d1c0465ffbf"), looks := false }, kinds := [], alts := [], laidByText := true, laidKinds := [.data, .data], laidTests := true, laidLooks := .later }
def HcheckBindsCardSaid : Prop := Claim7.holds Tryd.pinned (.plain (OpenSpec.ofChange hcheckBindsSpec)) hcheckBindsCard

/-- THE TIED CARD OF 'notarylaw16.HcheckTurned'. -/
def hcheckTurnedCard : Claim7 := { stood := { row := hcheckTurnedRow, standIns := [], harness := (true, "41183a6a4bcf44f7a0cae07a122ef37f719d708de27e2c6988706d1c0465ffbf"), looks := false }, kinds := [], alts := [], laidByText := true, laidKinds := [.data, .data], laidTests := true, laidLooks := .later }
def HcheckTurnedCardSaid : Prop := Claim7.holds Tryd.pinned (.plain (OpenSpec.ofChange hcheckTurnedSpec)) hcheckTurnedCard

/-- THE TIED CARD OF 'notarylaw16.HcheckOther'. -/
def hcheckOtherCard : Claim7 := { stood := { row := hcheckOtherRow, standIns := [], harness := (true, "41183a6a4bcf44f7a0cae07a122ef37f719d708de27e2c6988706d1c0465ffbf"), looks := false }, kinds := [], alts := [], laidByText := true, laidKinds := [.data, .data], laidTests := true, laidLooks := .later }
def HcheckOtherCardSaid : Prop := Claim7.holds Tryd.pinned (.plain (OpenSpec.ofChange hcheckOtherSpec)) hcheckOtherCard

/-- THE SECOND FORM's CARD OF 'notarylaw16.HcheckRoots'. -/
def hcheckRootsUptoCard : Claim7 := { stood := { row := hcheckRootsUptoRow, standIns := [], harness := (true, "41183a6a4bcf44f7a0cae07a122ef37f719d708de27e2c6988706d1c0465ffbf"), looks := false }, kinds := [], alts := [], laidByText := true, laidKinds := [.data, .data], laidTests := true, laidLooks := .later }
def HcheckRootsUptoCardSaid : Prop := Claim7.holds Tryd.pinned (.plain (OpenSpec.upto hcheckRootsSpec)) hcheckRootsUptoCard

/-- THE SECOND FORM's CARD OF 'notarylaw16.HcheckAgrees'. -/
def hcheckAgreesUptoCard : Claim7 := { stood := { row := hcheckAgreesUptoRow, standIns := [], harness := (true, "41183a6a4bcf44f7a0cae07a122ef37f719d708de27e2c6988706d1c0465ffbf"), looks := false }, kinds := [], alts := [], laidByText := true, laidKinds := [.data, .data], laidTests := true, laidLooks := .later }
def HcheckAgreesUptoCardSaid : Prop := Claim7.holds Tryd.pinned (.plain (OpenSpec.upto hcheckAgreesSpec)) hcheckAgreesUptoCard

/-- THE SECOND FORM's CARD OF 'notarylaw16.HcheckBinds'. -/
def hcheckBindsUptoCard : Claim7 := { stood := { row := hcheckBindsUptoRow, standIns := [], harness := (true, "41183a6a4bcf44f7a0cae07a122ef37f719d708de27e2c6988706d1c0465ffbf"), looks := false }, kinds := [], alts := [], laidByText := true, laidKinds := [.data, .data], laidTests := true, laidLooks := .later }
def HcheckBindsUptoCardSaid : Prop := Claim7.holds Tryd.pinned (.plain (OpenSpec.upto hcheckBindsSpec)) hcheckBindsUptoCard

/-- THE SECOND FORM's CARD OF 'notarylaw16.HcheckTurned'. -/
def hcheckTurnedUptoCard : Claim7 := { stood := { row := hcheckTurnedUptoRow, standIns := [], harness := (true, "41183a6a4bcf44f7a0cae07a122ef37f719d708de27e2c6988706d1c0465ffbf"), looks := false }, kinds := [], alts := [], laidByText := true, laidKinds := [.data, .data], laidTests := true, laidLooks := .later }
def HcheckTurnedUptoCardSaid : Prop := Claim7.holds Tryd.pinned (.plain (OpenSpec.upto hcheckTurnedSpec)) hcheckTurnedUptoCard

/-- THE SECOND FORM's CARD OF 'notarylaw16.HcheckOther'. -/
def hcheckOtherUptoCard : Claim7 := { stood := { row := hcheckOtherUptoRow, standIns := [], harness := (true, "41183a6a4bcf44f7a0cae07a122ef37f719d708de27e2c6988706d1c0465ffbf"), looks := false }, kinds := [], alts := [], laidByText := true, laidKinds := [.data, .data], laidTests := true, laidLooks := .later }
def HcheckOtherUptoCardSaid : Prop := Claim7.holds Tryd.pinned (.plain (OpenSpec.upto hcheckOtherSpec)) hcheckOtherUptoCard
end Rows
end Go.Proofs.YtilhfladhgmldaaDoor
