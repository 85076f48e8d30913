/-
  DERIVED. GIVEN WITH THE SEED: THE CARDS: each row of YtnimfbbhhdgepabDoorRows.lean that lists a variable, with what it lists TIED to the program's text (the seventh form; the later family's looks); each row that meets fmt, with fmt's text TOLD by the authors' own Lean function (tested against real Go, not proved from fmt's source: count such statements apart). THE CARD IS WHAT COUNTS. Prove the row's statement (the work); the ties are given (YtnimfbbhhdgepabDoorTie.lean); close each card by the builder's one call (the guide's Derived/Test/ToyasCard.lean, 'card_holds'). Laid BY PROGRAM, IN A SANDBOX (cutbox-door.mjs). By AI agents, Wed Nov 11 2026. No macro, syntax, notation, axiom, sorry.
-/
import Derived.Test.YtnimfbbhhdgepabDoorRows
import GoSem.ClaimSeven
namespace Go.Proofs.YtnimfbbhhdgepabDoor
namespace Rows

/-- THE TIED CARD OF 'notarylaw02.ShaMemory'. -/
def shaMemoryCard : Claim7 := { stood := { row := shaMemoryRow, standIns := [], harness := (true, "bccf1bbf10bb14c9d32b3519b1c70968f99d3e4c6395bebcb1db8e6b338694e1"), looks := false }, kinds := [], alts := [], laidByText := true, laidKinds := [.data, .data], laidTests := true, laidLooks := .later }
def ShaMemoryCardSaid : Prop := Claim7.holds Tryd.pinned (.plain (OpenSpec.ofChange shaMemorySpec)) shaMemoryCard

/-- THE TIED CARD OF 'notarylaw02.ShaNil'. -/
def shaNilCard : Claim7 := { stood := { row := shaNilRow, standIns := [], harness := (true, "bccf1bbf10bb14c9d32b3519b1c70968f99d3e4c6395bebcb1db8e6b338694e1"), looks := false }, kinds := [], alts := [], laidByText := true, laidKinds := [.data, .data], laidTests := true, laidLooks := .later }
def ShaNilCardSaid : Prop := Claim7.holds Tryd.pinned (.plain (OpenSpec.ofChange shaNilSpec)) shaNilCard

/-- THE TIED CARD OF 'notarytop.WholeSha'. -/
def wholeShaCard : Claim7 := { stood := { row := wholeShaRow, standIns := [], harness := (true, "bccf1bbf10bb14c9d32b3519b1c70968f99d3e4c6395bebcb1db8e6b338694e1"), looks := false }, kinds := [], alts := [], laidByText := true, laidKinds := [.data, .data], laidTests := true, laidLooks := .later }
def WholeShaCardSaid : Prop := Claim7.holds Tryd.pinned (.plain (OpenSpec.ofChange wholeShaSpec)) wholeShaCard

/-- THE SECOND FORM's CARD OF 'notarylaw02.ShaMemory'. -/
def shaMemoryUptoCard : Claim7 := { stood := { row := shaMemoryUptoRow, standIns := [], harness := (true, "bccf1bbf10bb14c9d32b3519b1c70968f99d3e4c6395bebcb1db8e6b338694e1"), looks := false }, kinds := [], alts := [], laidByText := true, laidKinds := [.data, .data], laidTests := true, laidLooks := .later }
def ShaMemoryUptoCardSaid : Prop := Claim7.holds Tryd.pinned (.plain (OpenSpec.upto shaMemorySpec)) shaMemoryUptoCard

/-- THE SECOND FORM's CARD OF 'notarylaw02.ShaNil'. -/
def shaNilUptoCard : Claim7 := { stood := { row := shaNilUptoRow, standIns := [], harness := (true, "bccf1bbf10bb14c9d32b3519b1c70968f99d3e4c6395bebcb1db8e6b338694e1"), looks := false }, kinds := [], alts := [], laidByText := true, laidKinds := [.data, .data], laidTests := true, laidLooks := .later }
def ShaNilUptoCardSaid : Prop := Claim7.holds Tryd.pinned (.plain (OpenSpec.upto shaNilSpec)) shaNilUptoCard

/-- THE SECOND FORM's CARD OF 'notarytop.WholeSha'. -/
def wholeShaUptoCard : Claim7 := { stood := { row := wholeShaUptoRow, standIns := [], harness := (true, "bccf1bbf10bb14c9d32b3519b1c70968f99d3e4c6395bebcb1db8e6b338694e1"), looks := false }, kinds := [], alts := [], laidByText := true, laidKinds := [.data, .data], laidTests := true, laidLooks := .later }
def WholeShaUptoCardSaid : Prop := Claim7.holds Tryd.pinned (.plain (OpenSpec.upto wholeShaSpec)) wholeShaUptoCard
end Rows
end Go.Proofs.YtnimfbbhhdgepabDoor
