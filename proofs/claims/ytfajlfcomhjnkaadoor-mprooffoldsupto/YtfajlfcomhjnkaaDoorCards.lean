/-
  DERIVED. GIVEN WITH THE SEED: THE CARDS: each row of YtfajlfcomhjnkaaDoorRows.lean that lists a variable, with what it lists TIED to the program's text (the seventh form; the later family's looks); each row that meets fmt, with fmt's text TOLD by the authors' own Lean function (tested against real Go, not proved from fmt's source: count such statements apart). THE CARD IS WHAT COUNTS. Prove the row's statement (the work); the ties are given (YtfajlfcomhjnkaaDoorTie.lean); close each card by the builder's one call (the guide's Derived/Test/ToyasCard.lean, 'card_holds'). Laid BY PROGRAM, IN A SANDBOX (cutbox-door.mjs). By AI agents, Wed Nov 11 2026. No macro, syntax, notation, axiom, sorry.
-/
import Derived.Test.YtfajlfcomhjnkaaDoorRows
import GoSem.ClaimSeven
namespace Go.Proofs.YtfajlfcomhjnkaaDoor
namespace Rows

/-- THE TIED CARD OF 'notarylaw11.MproofConsistencies'. -/
def mproofConsistenciesCard : Claim7 := { stood := { row := mproofConsistenciesRow, standIns := [], harness := (true, "01c102b4255692e504c92b9774a9d1377934043cc68bdf95e3c6b23df54cb99e"), looks := false }, kinds := [], alts := [], laidByText := true, laidKinds := [.data, .data, .data], laidTests := true, laidLooks := .later }
def MproofConsistenciesCardSaid : Prop := Claim7.holds Tryd.pinned (.plain (OpenSpec.ofChange mproofConsistenciesSpec)) mproofConsistenciesCard

/-- THE TIED CARD OF 'notarylaw11.MproofFixed'. -/
def mproofFixedCard : Claim7 := { stood := { row := mproofFixedRow, standIns := [], harness := (true, "01c102b4255692e504c92b9774a9d1377934043cc68bdf95e3c6b23df54cb99e"), looks := false }, kinds := [], alts := [], laidByText := true, laidKinds := [.data, .data, .data], laidTests := true, laidLooks := .later }
def MproofFixedCardSaid : Prop := Claim7.holds Tryd.pinned (.plain (OpenSpec.ofChange mproofFixedSpec)) mproofFixedCard

/-- THE TIED CARD OF 'notarylaw11.MproofSince'. -/
def mproofSinceCard : Claim7 := { stood := { row := mproofSinceRow, standIns := [], harness := (true, "01c102b4255692e504c92b9774a9d1377934043cc68bdf95e3c6b23df54cb99e"), looks := false }, kinds := [], alts := [], laidByText := true, laidKinds := [.data, .data, .data], laidTests := true, laidLooks := .later }
def MproofSinceCardSaid : Prop := Claim7.holds Tryd.pinned (.plain (OpenSpec.ofChange mproofSinceSpec)) mproofSinceCard

/-- THE TIED CARD OF 'notarylaw11.MproofFolds'. -/
def mproofFoldsCard : Claim7 := { stood := { row := mproofFoldsRow, standIns := [], harness := (true, "01c102b4255692e504c92b9774a9d1377934043cc68bdf95e3c6b23df54cb99e"), looks := false }, kinds := [], alts := [], laidByText := true, laidKinds := [.data, .data, .data], laidTests := true, laidLooks := .later }
def MproofFoldsCardSaid : Prop := Claim7.holds Tryd.pinned (.plain (OpenSpec.ofChange mproofFoldsSpec)) mproofFoldsCard

/-- THE TIED CARD OF 'notarylaw11.MproofPast'. -/
def mproofPastCard : Claim7 := { stood := { row := mproofPastRow, standIns := [], harness := (true, "01c102b4255692e504c92b9774a9d1377934043cc68bdf95e3c6b23df54cb99e"), looks := false }, kinds := [], alts := [], laidByText := true, laidKinds := [.data, .data, .data], laidTests := true, laidLooks := .later }
def MproofPastCardSaid : Prop := Claim7.holds Tryd.pinned (.plain (OpenSpec.ofChange mproofPastSpec)) mproofPastCard

/-- THE TIED CARD OF 'notarylaw11.MproofMemory'. -/
def mproofMemoryCard : Claim7 := { stood := { row := mproofMemoryRow, standIns := [], harness := (true, "01c102b4255692e504c92b9774a9d1377934043cc68bdf95e3c6b23df54cb99e"), looks := false }, kinds := [], alts := [], laidByText := true, laidKinds := [.data, .data, .data], laidTests := true, laidLooks := .later }
def MproofMemoryCardSaid : Prop := Claim7.holds Tryd.pinned (.plain (OpenSpec.ofChange mproofMemorySpec)) mproofMemoryCard

/-- THE SECOND FORM's CARD OF 'notarylaw11.MproofConsistencies'. -/
def mproofConsistenciesUptoCard : Claim7 := { stood := { row := mproofConsistenciesUptoRow, standIns := [], harness := (true, "01c102b4255692e504c92b9774a9d1377934043cc68bdf95e3c6b23df54cb99e"), looks := false }, kinds := [], alts := [], laidByText := true, laidKinds := [.data, .data, .data], laidTests := true, laidLooks := .later }
def MproofConsistenciesUptoCardSaid : Prop := Claim7.holds Tryd.pinned (.plain (OpenSpec.upto mproofConsistenciesSpec)) mproofConsistenciesUptoCard

/-- THE SECOND FORM's CARD OF 'notarylaw11.MproofFixed'. -/
def mproofFixedUptoCard : Claim7 := { stood := { row := mproofFixedUptoRow, standIns := [], harness := (true, "01c102b4255692e504c92b9774a9d1377934043cc68bdf95e3c6b23df54cb99e"), looks := false }, kinds := [], alts := [], laidByText := true, laidKinds := [.data, .data, .data], laidTests := true, laidLooks := .later }
def MproofFixedUptoCardSaid : Prop := Claim7.holds Tryd.pinned (.plain (OpenSpec.upto mproofFixedSpec)) mproofFixedUptoCard

/-- THE SECOND FORM's CARD OF 'notarylaw11.MproofSince'. -/
def mproofSinceUptoCard : Claim7 := { stood := { row := mproofSinceUptoRow, standIns := [], harness := (true, "01c102b4255692e504c92b9774a9d1377934043cc68bdf95e3c6b23df54cb99e"), looks := false }, kinds := [], alts := [], laidByText := true, laidKinds := [.data, .data, .data], laidTests := true, laidLooks := .later }
def MproofSinceUptoCardSaid : Prop := Claim7.holds Tryd.pinned (.plain (OpenSpec.upto mproofSinceSpec)) mproofSinceUptoCard

/-- THE SECOND FORM's CARD OF 'notarylaw11.MproofFolds'. -/
def mproofFoldsUptoCard : Claim7 := { stood := { row := mproofFoldsUptoRow, standIns := [], harness := (true, "01c102b4255692e504c92b9774a9d1377934043cc68bdf95e3c6b23df54cb99e"), looks := false }, kinds := [], alts := [], laidByText := true, laidKinds := [.data, .data, .data], laidTests := true, laidLooks := .later }
def MproofFoldsUptoCardSaid : Prop := Claim7.holds Tryd.pinned (.plain (OpenSpec.upto mproofFoldsSpec)) mproofFoldsUptoCard

/-- THE SECOND FORM's CARD OF 'notarylaw11.MproofPast'. -/
def mproofPastUptoCard : Claim7 := { stood := { row := mproofPastUptoRow, standIns := [], harness := (true, "01c102b4255692e504c92b9774a9d1377934043cc68bdf95e3c6b23df54cb99e"), looks := false }, kinds := [], alts := [], laidByText := true, laidKinds := [.data, .data, .data], laidTests := true, laidLooks := .later }
def MproofPastUptoCardSaid : Prop := Claim7.holds Tryd.pinned (.plain (OpenSpec.upto mproofPastSpec)) mproofPastUptoCard

/-- THE SECOND FORM's CARD OF 'notarylaw11.MproofMemory'. -/
def mproofMemoryUptoCard : Claim7 := { stood := { row := mproofMemoryUptoRow, standIns := [], harness := (true, "01c102b4255692e504c92b9774a9d1377934043cc68bdf95e3c6b23df54cb99e"), looks := false }, kinds := [], alts := [], laidByText := true, laidKinds := [.data, .data, .data], laidTests := true, laidLooks := .later }
def MproofMemoryUptoCardSaid : Prop := Claim7.holds Tryd.pinned (.plain (OpenSpec.upto mproofMemorySpec)) mproofMemoryUptoCard
end Rows
end Go.Proofs.YtfajlfcomhjnkaaDoor
