/-
  DERIVED. GIVEN WITH THE SEED: THE CARDS: each row of YtiopaaeejppnnaaGreatDoorRows.lean that lists a variable, with what it lists TIED to the program's text (the seventh form; the later family's looks); each row that meets fmt, with fmt's text TOLD by the authors' own Lean function (tested against real Go, not proved from fmt's source: count such statements apart). THE CARD IS WHAT COUNTS. Prove the row's statement (the work); the ties are given (YtiopaaeejppnnaaGreatDoorTie.lean); close each card by the builder's one call (the guide's Derived/Test/ToyasCard.lean, 'card_holds'). Laid BY PROGRAM, IN A SANDBOX (cutbox-door.mjs). By AI agents, Wed Nov 11 2026. No macro, syntax, notation, axiom, sorry.
-/
import Derived.Test.YtiopaaeejppnnaaGreatDoorRows
import GoSem.ClaimSeven
namespace Go.Proofs.YtiopaaeejppnnaaGreatDoor
namespace Rows

/-- THE TIED CARD OF 'notarylaw15.HproofProves'. -/
def hproofProvesCard : Claim7 := { stood := { row := hproofProvesRow, standIns := [], harness := (true, "3c4971c1ed45ca0673053f8b516dd2b6c8ca73eaef95ee7a7ccb0319a82d2cf0"), looks := true }, kinds := [], alts := [], laidByText := true, laidKinds := [.data, .data], laidTests := true, laidLooks := .later }
def HproofProvesCardSaid : Prop := Claim7.holds Tryz.pinned (.plain (OpenSpec.ofChange hproofProvesSpec)) hproofProvesCard

/-- THE TIED CARD OF 'notarylaw15.HproofSizes'. -/
def hproofSizesCard : Claim7 := { stood := { row := hproofSizesRow, standIns := [], harness := (true, "3c4971c1ed45ca0673053f8b516dd2b6c8ca73eaef95ee7a7ccb0319a82d2cf0"), looks := true }, kinds := [], alts := [], laidByText := true, laidKinds := [.data, .data], laidTests := true, laidLooks := .later }
def HproofSizesCardSaid : Prop := Claim7.holds Tryz.pinned (.plain (OpenSpec.ofChange hproofSizesSpec)) hproofSizesCard

/-- THE TIED CARD OF 'notarylaw15.HproofNil'. -/
def hproofNilCard : Claim7 := { stood := { row := hproofNilRow, standIns := [], harness := (true, "3c4971c1ed45ca0673053f8b516dd2b6c8ca73eaef95ee7a7ccb0319a82d2cf0"), looks := true }, kinds := [], alts := [], laidByText := true, laidKinds := [.data, .data], laidTests := true, laidLooks := .later }
def HproofNilCardSaid : Prop := Claim7.holds Tryz.pinned (.plain (OpenSpec.ofChange hproofNilSpec)) hproofNilCard

/-- THE TIED CARD OF 'notarylaw15.HproofAccepted'. -/
def hproofAcceptedCard : Claim7 := { stood := { row := hproofAcceptedRow, standIns := [], harness := (true, "3c4971c1ed45ca0673053f8b516dd2b6c8ca73eaef95ee7a7ccb0319a82d2cf0"), looks := true }, kinds := [], alts := [], laidByText := true, laidKinds := [.data, .data], laidTests := true, laidLooks := .later }
def HproofAcceptedCardSaid : Prop := Claim7.holds Tryz.pinned (.plain (OpenSpec.ofChange hproofAcceptedSpec)) hproofAcceptedCard

/-- THE TIED CARD OF 'notarylaw15.HproofWalks'. -/
def hproofWalksCard : Claim7 := { stood := { row := hproofWalksRow, standIns := [], harness := (true, "3c4971c1ed45ca0673053f8b516dd2b6c8ca73eaef95ee7a7ccb0319a82d2cf0"), looks := true }, kinds := [], alts := [], laidByText := true, laidKinds := [.data, .data], laidTests := true, laidLooks := .later }
def HproofWalksCardSaid : Prop := Claim7.holds Tryz.pinned (.plain (OpenSpec.ofChange hproofWalksSpec)) hproofWalksCard

/-- THE TIED CARD OF 'notarylaw15.HproofOneSet'. -/
def hproofOneSetCard : Claim7 := { stood := { row := hproofOneSetRow, standIns := [], harness := (true, "3c4971c1ed45ca0673053f8b516dd2b6c8ca73eaef95ee7a7ccb0319a82d2cf0"), looks := true }, kinds := [], alts := [], laidByText := true, laidKinds := [.data, .data], laidTests := true, laidLooks := .later }
def HproofOneSetCardSaid : Prop := Claim7.holds Tryz.pinned (.plain (OpenSpec.ofChange hproofOneSetSpec)) hproofOneSetCard

/-- THE SECOND FORM's CARD OF 'notarylaw15.HproofProves'. -/
def hproofProvesUptoCard : Claim7 := { stood := { row := hproofProvesUptoRow, standIns := [], harness := (true, "3c4971c1ed45ca0673053f8b516dd2b6c8ca73eaef95ee7a7ccb0319a82d2cf0"), looks := true }, kinds := [], alts := [], laidByText := true, laidKinds := [.data, .data], laidTests := true, laidLooks := .later }
def HproofProvesUptoCardSaid : Prop := Claim7.holds Tryz.pinned (.plain (OpenSpec.upto hproofProvesSpec)) hproofProvesUptoCard

/-- THE SECOND FORM's CARD OF 'notarylaw15.HproofSizes'. -/
def hproofSizesUptoCard : Claim7 := { stood := { row := hproofSizesUptoRow, standIns := [], harness := (true, "3c4971c1ed45ca0673053f8b516dd2b6c8ca73eaef95ee7a7ccb0319a82d2cf0"), looks := true }, kinds := [], alts := [], laidByText := true, laidKinds := [.data, .data], laidTests := true, laidLooks := .later }
def HproofSizesUptoCardSaid : Prop := Claim7.holds Tryz.pinned (.plain (OpenSpec.upto hproofSizesSpec)) hproofSizesUptoCard

/-- THE SECOND FORM's CARD OF 'notarylaw15.HproofNil'. -/
def hproofNilUptoCard : Claim7 := { stood := { row := hproofNilUptoRow, standIns := [], harness := (true, "3c4971c1ed45ca0673053f8b516dd2b6c8ca73eaef95ee7a7ccb0319a82d2cf0"), looks := true }, kinds := [], alts := [], laidByText := true, laidKinds := [.data, .data], laidTests := true, laidLooks := .later }
def HproofNilUptoCardSaid : Prop := Claim7.holds Tryz.pinned (.plain (OpenSpec.upto hproofNilSpec)) hproofNilUptoCard

/-- THE SECOND FORM's CARD OF 'notarylaw15.HproofAccepted'. -/
def hproofAcceptedUptoCard : Claim7 := { stood := { row := hproofAcceptedUptoRow, standIns := [], harness := (true, "3c4971c1ed45ca0673053f8b516dd2b6c8ca73eaef95ee7a7ccb0319a82d2cf0"), looks := true }, kinds := [], alts := [], laidByText := true, laidKinds := [.data, .data], laidTests := true, laidLooks := .later }
def HproofAcceptedUptoCardSaid : Prop := Claim7.holds Tryz.pinned (.plain (OpenSpec.upto hproofAcceptedSpec)) hproofAcceptedUptoCard

/-- THE SECOND FORM's CARD OF 'notarylaw15.HproofWalks'. -/
def hproofWalksUptoCard : Claim7 := { stood := { row := hproofWalksUptoRow, standIns := [], harness := (true, "3c4971c1ed45ca0673053f8b516dd2b6c8ca73eaef95ee7a7ccb0319a82d2cf0"), looks := true }, kinds := [], alts := [], laidByText := true, laidKinds := [.data, .data], laidTests := true, laidLooks := .later }
def HproofWalksUptoCardSaid : Prop := Claim7.holds Tryz.pinned (.plain (OpenSpec.upto hproofWalksSpec)) hproofWalksUptoCard

/-- THE SECOND FORM's CARD OF 'notarylaw15.HproofOneSet'. -/
def hproofOneSetUptoCard : Claim7 := { stood := { row := hproofOneSetUptoRow, standIns := [], harness := (true, "3c4971c1ed45ca0673053f8b516dd2b6c8ca73eaef95ee7a7ccb0319a82d2cf0"), looks := true }, kinds := [], alts := [], laidByText := true, laidKinds := [.data, .data], laidTests := true, laidLooks := .later }
def HproofOneSetUptoCardSaid : Prop := Claim7.holds Tryz.pinned (.plain (OpenSpec.upto hproofOneSetSpec)) hproofOneSetUptoCard
end Rows
end Go.Proofs.YtiopaaeejppnnaaGreatDoor
