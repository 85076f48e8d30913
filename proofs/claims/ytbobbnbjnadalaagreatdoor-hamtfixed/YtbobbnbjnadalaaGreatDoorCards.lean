/-
  DERIVED. GIVEN WITH THE SEED: THE CARDS: each row of YtbobbnbjnadalaaGreatDoorRows.lean that lists a variable, with what it lists TIED to the program's text (the seventh form; the later family's looks); each row that meets fmt, with fmt's text TOLD by the authors' own Lean function (tested against real Go, not proved from fmt's source: count such statements apart). THE CARD IS WHAT COUNTS. Prove the row's statement (the work); the ties are given (YtbobbnbjnadalaaGreatDoorTie.lean); close each card by the builder's one call (the guide's Derived/Test/ToyasCard.lean, 'card_holds'). Laid BY PROGRAM, IN A SANDBOX (cutbox-door.mjs). By AI agents, Wed Nov 11 2026. No macro, syntax, notation, axiom, sorry.
-/
import Derived.Test.YtbobbnbjnadalaaGreatDoorRows
import GoSem.ClaimSeven
namespace Go.Proofs.YtbobbnbjnadalaaGreatDoor
namespace Rows

/-- THE TIED CARD OF 'notarylaw14.HamtFixed'. -/
def hamtFixedCard : Claim7 := { stood := { row := hamtFixedRow, standIns := [], harness := (true, "9f6467fa06371854e00c7710249c960a441a5d10e037451170f7ebb27fd9a06d"), looks := true }, kinds := [], alts := [], laidByText := true, laidKinds := [.data, .data], laidTests := true, laidLooks := .later }
def HamtFixedCardSaid : Prop := Claim7.holds Tryz.pinned (.plain (OpenSpec.ofChange hamtFixedSpec)) hamtFixedCard

/-- THE TIED CARD OF 'notarylaw14.HamtMemory'. -/
def hamtMemoryCard : Claim7 := { stood := { row := hamtMemoryRow, standIns := [], harness := (true, "9f6467fa06371854e00c7710249c960a441a5d10e037451170f7ebb27fd9a06d"), looks := true }, kinds := [], alts := [], laidByText := true, laidKinds := [.data, .data], laidTests := true, laidLooks := .later }
def HamtMemoryCardSaid : Prop := Claim7.holds Tryz.pinned (.plain (OpenSpec.ofChange hamtMemorySpec)) hamtMemoryCard

/-- THE TIED CARD OF 'notarylaw15.HproofProves'. -/
def hproofProvesCard : Claim7 := { stood := { row := hproofProvesRow, standIns := [], harness := (true, "9f6467fa06371854e00c7710249c960a441a5d10e037451170f7ebb27fd9a06d"), looks := true }, kinds := [], alts := [], laidByText := true, laidKinds := [.data, .data], laidTests := true, laidLooks := .later }
def HproofProvesCardSaid : Prop := Claim7.holds Tryz.pinned (.plain (OpenSpec.ofChange hproofProvesSpec)) hproofProvesCard

/-- THE TIED CARD OF 'notarylaw15.HproofSizes'. -/
def hproofSizesCard : Claim7 := { stood := { row := hproofSizesRow, standIns := [], harness := (true, "9f6467fa06371854e00c7710249c960a441a5d10e037451170f7ebb27fd9a06d"), looks := true }, kinds := [], alts := [], laidByText := true, laidKinds := [.data, .data], laidTests := true, laidLooks := .later }
def HproofSizesCardSaid : Prop := Claim7.holds Tryz.pinned (.plain (OpenSpec.ofChange hproofSizesSpec)) hproofSizesCard

/-- THE TIED CARD OF 'notarylaw15.HproofNil'. -/
def hproofNilCard : Claim7 := { stood := { row := hproofNilRow, standIns := [], harness := (true, "9f6467fa06371854e00c7710249c960a441a5d10e037451170f7ebb27fd9a06d"), looks := true }, kinds := [], alts := [], laidByText := true, laidKinds := [.data, .data], laidTests := true, laidLooks := .later }
def HproofNilCardSaid : Prop := Claim7.holds Tryz.pinned (.plain (OpenSpec.ofChange hproofNilSpec)) hproofNilCard

/-- THE SECOND FORM's CARD OF 'notarylaw14.HamtFixed'. -/
def hamtFixedUptoCard : Claim7 := { stood := { row := hamtFixedUptoRow, standIns := [], harness := (true, "9f6467fa06371854e00c7710249c960a441a5d10e037451170f7ebb27fd9a06d"), looks := true }, kinds := [], alts := [], laidByText := true, laidKinds := [.data, .data], laidTests := true, laidLooks := .later }
def HamtFixedUptoCardSaid : Prop := Claim7.holds Tryz.pinned (.plain (OpenSpec.upto hamtFixedSpec)) hamtFixedUptoCard

/-- THE SECOND FORM's CARD OF 'notarylaw14.HamtMemory'. -/
def hamtMemoryUptoCard : Claim7 := { stood := { row := hamtMemoryUptoRow, standIns := [], harness := (true, "9f6467fa06371854e00c7710249c960a441a5d10e037451170f7ebb27fd9a06d"), looks := true }, kinds := [], alts := [], laidByText := true, laidKinds := [.data, .data], laidTests := true, laidLooks := .later }
def HamtMemoryUptoCardSaid : Prop := Claim7.holds Tryz.pinned (.plain (OpenSpec.upto hamtMemorySpec)) hamtMemoryUptoCard

/-- THE SECOND FORM's CARD OF 'notarylaw15.HproofProves'. -/
def hproofProvesUptoCard : Claim7 := { stood := { row := hproofProvesUptoRow, standIns := [], harness := (true, "9f6467fa06371854e00c7710249c960a441a5d10e037451170f7ebb27fd9a06d"), looks := true }, kinds := [], alts := [], laidByText := true, laidKinds := [.data, .data], laidTests := true, laidLooks := .later }
def HproofProvesUptoCardSaid : Prop := Claim7.holds Tryz.pinned (.plain (OpenSpec.upto hproofProvesSpec)) hproofProvesUptoCard

/-- THE SECOND FORM's CARD OF 'notarylaw15.HproofSizes'. -/
def hproofSizesUptoCard : Claim7 := { stood := { row := hproofSizesUptoRow, standIns := [], harness := (true, "9f6467fa06371854e00c7710249c960a441a5d10e037451170f7ebb27fd9a06d"), looks := true }, kinds := [], alts := [], laidByText := true, laidKinds := [.data, .data], laidTests := true, laidLooks := .later }
def HproofSizesUptoCardSaid : Prop := Claim7.holds Tryz.pinned (.plain (OpenSpec.upto hproofSizesSpec)) hproofSizesUptoCard

/-- THE SECOND FORM's CARD OF 'notarylaw15.HproofNil'. -/
def hproofNilUptoCard : Claim7 := { stood := { row := hproofNilUptoRow, standIns := [], harness := (true, "9f6467fa06371854e00c7710249c960a441a5d10e037451170f7ebb27fd9a06d"), looks := true }, kinds := [], alts := [], laidByText := true, laidKinds := [.data, .data], laidTests := true, laidLooks := .later }
def HproofNilUptoCardSaid : Prop := Claim7.holds Tryz.pinned (.plain (OpenSpec.upto hproofNilSpec)) hproofNilUptoCard
end Rows
end Go.Proofs.YtbobbnbjnadalaaGreatDoor
