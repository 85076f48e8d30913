/-
  DERIVED. GIVEN WITH THE SEED: THE CARDS: each row of YtejchncdimcdbaaGreatDoorRows.lean that lists a variable, with what it lists TIED to the program's text (the seventh form; the later family's looks); each row that meets fmt, with fmt's text TOLD by the authors' own Lean function (tested against real Go, not proved from fmt's source: count such statements apart). THE CARD IS WHAT COUNTS. Prove the row's statement (the work); the ties are given (YtejchncdimcdbaaGreatDoorTie.lean); close each card by the builder's one call (the guide's Derived/Test/ToyasCard.lean, 'card_holds'). Laid BY PROGRAM, IN A SANDBOX (cutbox-door.mjs). By AI agents, Wed Nov 11 2026. No macro, syntax, notation, axiom, sorry.
-/
import Derived.Test.YtejchncdimcdbaaGreatDoorRows
import GoSem.ClaimSeven
namespace Go.Proofs.YtejchncdimcdbaaGreatDoor
namespace Rows

/-- THE TIED CARD OF 'notarylaw09.WalPlays'. -/
def walPlaysCard : Claim7 := { stood := { row := walPlaysRow, standIns := [], harness := (true, "8307573b2f2a8006fa4ea62c81986cc837d8b7d80dec0a2dc7b2c7a10a12b01b"), looks := true }, kinds := [], alts := [], laidByText := true, laidKinds := [.data, .data, .data, .sentinel, .sentinel], laidTests := true, laidLooks := .later }
def WalPlaysCardSaid : Prop := Claim7.holds Tryz.pinned (.plain (OpenSpec.ofChange walPlaysSpec)) walPlaysCard

/-- THE TIED CARD OF 'notarylaw09.WalOpens'. -/
def walOpensCard : Claim7 := { stood := { row := walOpensRow, standIns := [], harness := (true, "8307573b2f2a8006fa4ea62c81986cc837d8b7d80dec0a2dc7b2c7a10a12b01b"), looks := true }, kinds := [], alts := [], laidByText := true, laidKinds := [.data, .data, .data, .sentinel, .sentinel], laidTests := true, laidLooks := .later }
def WalOpensCardSaid : Prop := Claim7.holds Tryz.pinned (.plain (OpenSpec.ofChange walOpensSpec)) walOpensCard

/-- THE TIED CARD OF 'notarylaw09.WalNil'. -/
def walNilCard : Claim7 := { stood := { row := walNilRow, standIns := [], harness := (true, "8307573b2f2a8006fa4ea62c81986cc837d8b7d80dec0a2dc7b2c7a10a12b01b"), looks := true }, kinds := [], alts := [], laidByText := true, laidKinds := [.data, .data, .data, .sentinel, .sentinel], laidTests := true, laidLooks := .later }
def WalNilCardSaid : Prop := Claim7.holds Tryz.pinned (.plain (OpenSpec.ofChange walNilSpec)) walNilCard

/-- THE TIED CARD OF 'notarylaw09.WalStays'. -/
def walStaysCard : Claim7 := { stood := { row := walStaysRow, standIns := [], harness := (true, "8307573b2f2a8006fa4ea62c81986cc837d8b7d80dec0a2dc7b2c7a10a12b01b"), looks := true }, kinds := [], alts := [], laidByText := true, laidKinds := [.data, .data, .data, .sentinel, .sentinel], laidTests := true, laidLooks := .later }
def WalStaysCardSaid : Prop := Claim7.holds Tryz.pinned (.plain (OpenSpec.ofChange walStaysSpec)) walStaysCard

/-- THE TIED CARD OF 'notarylaw09.WalSticky'. -/
def walStickyCard : Claim7 := { stood := { row := walStickyRow, standIns := [], harness := (true, "8307573b2f2a8006fa4ea62c81986cc837d8b7d80dec0a2dc7b2c7a10a12b01b"), looks := true }, kinds := [], alts := [], laidByText := true, laidKinds := [.data, .data, .data, .sentinel, .sentinel], laidTests := true, laidLooks := .later }
def WalStickyCardSaid : Prop := Claim7.holds Tryz.pinned (.plain (OpenSpec.ofChange walStickySpec)) walStickyCard

/-- THE TIED CARD OF 'notarylaw09.WalSegments'. -/
def walSegmentsCard : Claim7 := { stood := { row := walSegmentsRow, standIns := [], harness := (true, "8307573b2f2a8006fa4ea62c81986cc837d8b7d80dec0a2dc7b2c7a10a12b01b"), looks := true }, kinds := [], alts := [], laidByText := true, laidKinds := [.data, .data, .data, .sentinel, .sentinel], laidTests := true, laidLooks := .later }
def WalSegmentsCardSaid : Prop := Claim7.holds Tryz.pinned (.plain (OpenSpec.ofChange walSegmentsSpec)) walSegmentsCard

/-- THE SECOND FORM's CARD OF 'notarylaw09.WalPlays'. -/
def walPlaysUptoCard : Claim7 := { stood := { row := walPlaysUptoRow, standIns := [], harness := (true, "8307573b2f2a8006fa4ea62c81986cc837d8b7d80dec0a2dc7b2c7a10a12b01b"), looks := true }, kinds := [], alts := [], laidByText := true, laidKinds := [.data, .data, .data, .sentinel, .sentinel], laidTests := true, laidLooks := .later }
def WalPlaysUptoCardSaid : Prop := Claim7.holds Tryz.pinned (.plain (OpenSpec.upto walPlaysSpec)) walPlaysUptoCard

/-- THE SECOND FORM's CARD OF 'notarylaw09.WalOpens'. -/
def walOpensUptoCard : Claim7 := { stood := { row := walOpensUptoRow, standIns := [], harness := (true, "8307573b2f2a8006fa4ea62c81986cc837d8b7d80dec0a2dc7b2c7a10a12b01b"), looks := true }, kinds := [], alts := [], laidByText := true, laidKinds := [.data, .data, .data, .sentinel, .sentinel], laidTests := true, laidLooks := .later }
def WalOpensUptoCardSaid : Prop := Claim7.holds Tryz.pinned (.plain (OpenSpec.upto walOpensSpec)) walOpensUptoCard

/-- THE SECOND FORM's CARD OF 'notarylaw09.WalNil'. -/
def walNilUptoCard : Claim7 := { stood := { row := walNilUptoRow, standIns := [], harness := (true, "8307573b2f2a8006fa4ea62c81986cc837d8b7d80dec0a2dc7b2c7a10a12b01b"), looks := true }, kinds := [], alts := [], laidByText := true, laidKinds := [.data, .data, .data, .sentinel, .sentinel], laidTests := true, laidLooks := .later }
def WalNilUptoCardSaid : Prop := Claim7.holds Tryz.pinned (.plain (OpenSpec.upto walNilSpec)) walNilUptoCard

/-- THE SECOND FORM's CARD OF 'notarylaw09.WalStays'. -/
def walStaysUptoCard : Claim7 := { stood := { row := walStaysUptoRow, standIns := [], harness := (true, "8307573b2f2a8006fa4ea62c81986cc837d8b7d80dec0a2dc7b2c7a10a12b01b"), looks := true }, kinds := [], alts := [], laidByText := true, laidKinds := [.data, .data, .data, .sentinel, .sentinel], laidTests := true, laidLooks := .later }
def WalStaysUptoCardSaid : Prop := Claim7.holds Tryz.pinned (.plain (OpenSpec.upto walStaysSpec)) walStaysUptoCard

/-- THE SECOND FORM's CARD OF 'notarylaw09.WalSticky'. -/
def walStickyUptoCard : Claim7 := { stood := { row := walStickyUptoRow, standIns := [], harness := (true, "8307573b2f2a8006fa4ea62c81986cc837d8b7d80dec0a2dc7b2c7a10a12b01b"), looks := true }, kinds := [], alts := [], laidByText := true, laidKinds := [.data, .data, .data, .sentinel, .sentinel], laidTests := true, laidLooks := .later }
def WalStickyUptoCardSaid : Prop := Claim7.holds Tryz.pinned (.plain (OpenSpec.upto walStickySpec)) walStickyUptoCard

/-- THE SECOND FORM's CARD OF 'notarylaw09.WalSegments'. -/
def walSegmentsUptoCard : Claim7 := { stood := { row := walSegmentsUptoRow, standIns := [], harness := (true, "8307573b2f2a8006fa4ea62c81986cc837d8b7d80dec0a2dc7b2c7a10a12b01b"), looks := true }, kinds := [], alts := [], laidByText := true, laidKinds := [.data, .data, .data, .sentinel, .sentinel], laidTests := true, laidLooks := .later }
def WalSegmentsUptoCardSaid : Prop := Claim7.holds Tryz.pinned (.plain (OpenSpec.upto walSegmentsSpec)) walSegmentsUptoCard
end Rows
end Go.Proofs.YtejchncdimcdbaaGreatDoor
