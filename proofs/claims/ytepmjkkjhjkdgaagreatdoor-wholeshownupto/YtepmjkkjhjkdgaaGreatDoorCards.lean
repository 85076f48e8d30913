/-
  DERIVED. GIVEN WITH THE SEED: THE CARDS: each row of YtepmjkkjhjkdgaaGreatDoorRows.lean that lists a variable, with what it lists TIED to the program's text (the seventh form; the later family's looks); each row that meets fmt, with fmt's text TOLD by the authors' own Lean function (tested against real Go, not proved from fmt's source: count such statements apart). THE CARD IS WHAT COUNTS. Prove the row's statement (the work); the ties are given (YtepmjkkjhjkdgaaGreatDoorTie.lean); close each card by the builder's one call (the guide's Derived/Test/ToyasCard.lean, 'card_holds'). Laid BY PROGRAM, IN A SANDBOX (cutbox-door.mjs). By AI agents, Wed Nov 11 2026. No macro, syntax, notation, axiom, sorry.
-/
import Derived.Test.YtepmjkkjhjkdgaaGreatDoorRows
import GoSem.ClaimSeven
namespace Go.Proofs.YtepmjkkjhjkdgaaGreatDoor
namespace Rows

/-- THE TIED CARD OF 'notarylaw14.HamtMemory'. -/
def hamtMemoryCard : Claim7 := { stood := { row := hamtMemoryRow, standIns := [], harness := (true, "f03992112edeef5534329c13e27923146d73e6d2cd7235fc61962599f350d3d1"), looks := true }, kinds := [], alts := [], laidByText := true, laidKinds := [.data, .data], laidTests := true, laidLooks := .later }
def HamtMemoryCardSaid : Prop := Claim7.holds Tryz.pinned (.plain (OpenSpec.ofChange hamtMemorySpec)) hamtMemoryCard

/-- THE TIED CARD OF 'notarylaw15.HproofKeeps'. -/
def hproofKeepsCard : Claim7 := { stood := { row := hproofKeepsRow, standIns := [], harness := (true, "f03992112edeef5534329c13e27923146d73e6d2cd7235fc61962599f350d3d1"), looks := true }, kinds := [], alts := [], laidByText := true, laidKinds := [.data, .data], laidTests := true, laidLooks := .later }
def HproofKeepsCardSaid : Prop := Claim7.holds Tryz.pinned (.plain (OpenSpec.ofChange hproofKeepsSpec)) hproofKeepsCard

/-- THE TIED CARD OF 'notarylaw16.HcheckHonest'. -/
def hcheckHonestCard : Claim7 := { stood := { row := hcheckHonestRow, standIns := [], harness := (true, "f03992112edeef5534329c13e27923146d73e6d2cd7235fc61962599f350d3d1"), looks := true }, kinds := [], alts := [], laidByText := true, laidKinds := [.data, .data], laidTests := true, laidLooks := .later }
def HcheckHonestCardSaid : Prop := Claim7.holds Tryz.pinned (.plain (OpenSpec.ofChange hcheckHonestSpec)) hcheckHonestCard

/-- THE TIED CARD OF 'notarytop.WholeShown'. -/
def wholeShownCard : Claim7 := { stood := { row := wholeShownRow, standIns := [], harness := (true, "f03992112edeef5534329c13e27923146d73e6d2cd7235fc61962599f350d3d1"), looks := true }, kinds := [], alts := [], laidByText := true, laidKinds := [.data, .data], laidTests := true, laidLooks := .later }
def WholeShownCardSaid : Prop := Claim7.holds Tryz.pinned (.plain (OpenSpec.ofChange wholeShownSpec)) wholeShownCard

/-- THE SECOND FORM's CARD OF 'notarylaw14.HamtMemory'. -/
def hamtMemoryUptoCard : Claim7 := { stood := { row := hamtMemoryUptoRow, standIns := [], harness := (true, "f03992112edeef5534329c13e27923146d73e6d2cd7235fc61962599f350d3d1"), looks := true }, kinds := [], alts := [], laidByText := true, laidKinds := [.data, .data], laidTests := true, laidLooks := .later }
def HamtMemoryUptoCardSaid : Prop := Claim7.holds Tryz.pinned (.plain (OpenSpec.upto hamtMemorySpec)) hamtMemoryUptoCard

/-- THE SECOND FORM's CARD OF 'notarylaw15.HproofKeeps'. -/
def hproofKeepsUptoCard : Claim7 := { stood := { row := hproofKeepsUptoRow, standIns := [], harness := (true, "f03992112edeef5534329c13e27923146d73e6d2cd7235fc61962599f350d3d1"), looks := true }, kinds := [], alts := [], laidByText := true, laidKinds := [.data, .data], laidTests := true, laidLooks := .later }
def HproofKeepsUptoCardSaid : Prop := Claim7.holds Tryz.pinned (.plain (OpenSpec.upto hproofKeepsSpec)) hproofKeepsUptoCard

/-- THE SECOND FORM's CARD OF 'notarylaw16.HcheckHonest'. -/
def hcheckHonestUptoCard : Claim7 := { stood := { row := hcheckHonestUptoRow, standIns := [], harness := (true, "f03992112edeef5534329c13e27923146d73e6d2cd7235fc61962599f350d3d1"), looks := true }, kinds := [], alts := [], laidByText := true, laidKinds := [.data, .data], laidTests := true, laidLooks := .later }
def HcheckHonestUptoCardSaid : Prop := Claim7.holds Tryz.pinned (.plain (OpenSpec.upto hcheckHonestSpec)) hcheckHonestUptoCard

/-- THE SECOND FORM's CARD OF 'notarytop.WholeShown'. -/
def wholeShownUptoCard : Claim7 := { stood := { row := wholeShownUptoRow, standIns := [], harness := (true, "f03992112edeef5534329c13e27923146d73e6d2cd7235fc61962599f350d3d1"), looks := true }, kinds := [], alts := [], laidByText := true, laidKinds := [.data, .data], laidTests := true, laidLooks := .later }
def WholeShownUptoCardSaid : Prop := Claim7.holds Tryz.pinned (.plain (OpenSpec.upto wholeShownSpec)) wholeShownUptoCard
end Rows
end Go.Proofs.YtepmjkkjhjkdgaaGreatDoor
