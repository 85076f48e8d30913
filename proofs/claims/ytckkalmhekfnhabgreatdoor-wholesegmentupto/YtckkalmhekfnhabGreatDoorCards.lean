/-
  DERIVED. GIVEN WITH THE SEED: THE CARDS: each row of YtckkalmhekfnhabGreatDoorRows.lean that lists a variable, with what it lists TIED to the program's text (the seventh form; the later family's looks); each row that meets fmt, with fmt's text TOLD by the authors' own Lean function (tested against real Go, not proved from fmt's source: count such statements apart). THE CARD IS WHAT COUNTS. Prove the row's statement (the work); the ties are given (YtckkalmhekfnhabGreatDoorTie.lean); close each card by the builder's one call (the guide's Derived/Test/ToyasCard.lean, 'card_holds'). Laid BY PROGRAM, IN A SANDBOX (cutbox-door.mjs). By AI agents, Wed Nov 11 2026. No macro, syntax, notation, axiom, sorry.
-/
import Derived.Test.YtckkalmhekfnhabGreatDoorRows
import GoSem.ClaimSeven
namespace Go.Proofs.YtckkalmhekfnhabGreatDoor
namespace Rows

/-- THE TIED CARD OF 'notarylaw08.SegmentFixed'. -/
def segmentFixedCard : Claim7 := { stood := { row := segmentFixedRow, standIns := [], harness := (true, "277727d2f30686b8d138a2dcef2f5f33563d65edb598649ee314700bd40f1efb"), looks := true }, kinds := [], alts := [], laidByText := true, laidKinds := [.data, .data, .data, .sentinel, .sentinel], laidTests := true, laidLooks := .later }
def SegmentFixedCardSaid : Prop := Claim7.holds Tryz.pinned (.plain (OpenSpec.ofChange segmentFixedSpec)) segmentFixedCard

/-- THE TIED CARD OF 'notarylaw08.SegmentMemory'. -/
def segmentMemoryCard : Claim7 := { stood := { row := segmentMemoryRow, standIns := [], harness := (true, "277727d2f30686b8d138a2dcef2f5f33563d65edb598649ee314700bd40f1efb"), looks := true }, kinds := [], alts := [], laidByText := true, laidKinds := [.data, .data, .data, .sentinel, .sentinel], laidTests := true, laidLooks := .later }
def SegmentMemoryCardSaid : Prop := Claim7.holds Tryz.pinned (.plain (OpenSpec.ofChange segmentMemorySpec)) segmentMemoryCard

/-- THE TIED CARD OF 'notarytop.WholeSegment'. -/
def wholeSegmentCard : Claim7 := { stood := { row := wholeSegmentRow, standIns := [], harness := (true, "277727d2f30686b8d138a2dcef2f5f33563d65edb598649ee314700bd40f1efb"), looks := true }, kinds := [], alts := [], laidByText := true, laidKinds := [.data, .data, .data, .sentinel, .sentinel], laidTests := true, laidLooks := .later }
def WholeSegmentCardSaid : Prop := Claim7.holds Tryz.pinned (.plain (OpenSpec.ofChange wholeSegmentSpec)) wholeSegmentCard

/-- THE SECOND FORM's CARD OF 'notarylaw08.SegmentFixed'. -/
def segmentFixedUptoCard : Claim7 := { stood := { row := segmentFixedUptoRow, standIns := [], harness := (true, "277727d2f30686b8d138a2dcef2f5f33563d65edb598649ee314700bd40f1efb"), looks := true }, kinds := [], alts := [], laidByText := true, laidKinds := [.data, .data, .data, .sentinel, .sentinel], laidTests := true, laidLooks := .later }
def SegmentFixedUptoCardSaid : Prop := Claim7.holds Tryz.pinned (.plain (OpenSpec.upto segmentFixedSpec)) segmentFixedUptoCard

/-- THE SECOND FORM's CARD OF 'notarylaw08.SegmentMemory'. -/
def segmentMemoryUptoCard : Claim7 := { stood := { row := segmentMemoryUptoRow, standIns := [], harness := (true, "277727d2f30686b8d138a2dcef2f5f33563d65edb598649ee314700bd40f1efb"), looks := true }, kinds := [], alts := [], laidByText := true, laidKinds := [.data, .data, .data, .sentinel, .sentinel], laidTests := true, laidLooks := .later }
def SegmentMemoryUptoCardSaid : Prop := Claim7.holds Tryz.pinned (.plain (OpenSpec.upto segmentMemorySpec)) segmentMemoryUptoCard

/-- THE SECOND FORM's CARD OF 'notarytop.WholeSegment'. -/
def wholeSegmentUptoCard : Claim7 := { stood := { row := wholeSegmentUptoRow, standIns := [], harness := (true, "277727d2f30686b8d138a2dcef2f5f33563d65edb598649ee314700bd40f1efb"), looks := true }, kinds := [], alts := [], laidByText := true, laidKinds := [.data, .data, .data, .sentinel, .sentinel], laidTests := true, laidLooks := .later }
def WholeSegmentUptoCardSaid : Prop := Claim7.holds Tryz.pinned (.plain (OpenSpec.upto wholeSegmentSpec)) wholeSegmentUptoCard
end Rows
end Go.Proofs.YtckkalmhekfnhabGreatDoor
