/-
  DERIVED. GIVEN WITH THE SEED: THE CARDS: each row of YthafpaenggcpdabDoorRows.lean that lists a variable, with what it lists TIED to the program's text (the seventh form; the later family's looks); each row that meets fmt, with fmt's text TOLD by the authors' own Lean function (tested against real Go, not proved from fmt's source: count such statements apart). THE CARD IS WHAT COUNTS. Prove the row's statement (the work); the ties are given (YthafpaenggcpdabDoorTie.lean); close each card by the builder's one call (the guide's Derived/Test/ToyasCard.lean, 'card_holds'). Laid BY PROGRAM, IN A SANDBOX (cutbox-door.mjs). By AI agents, Wed Nov 11 2026. No macro, syntax, notation, axiom, sorry.
-/
import Derived.Test.YthafpaenggcpdabDoorRows
import GoSem.ClaimSeven
namespace Go.Proofs.YthafpaenggcpdabDoor
namespace Rows

/-- THE TIED CARD OF 'notarylaw12.McheckCounts'. -/
def mcheckCountsCard : Claim7 := { stood := { row := mcheckCountsRow, standIns := [], harness := (true, "fcce73969f28a15d25225ce1c78bfe116f38437ef56cebe0c3a6c0d9ca628f7b"), looks := false }, kinds := [], alts := [], laidByText := true, laidKinds := [.data, .data], laidTests := true, laidLooks := .later }
def McheckCountsCardSaid : Prop := Claim7.holds Tryd.pinned (.plain (OpenSpec.ofChange mcheckCountsSpec)) mcheckCountsCard

/-- THE TIED CARD OF 'notarylaw12.McheckPowers'. -/
def mcheckPowersCard : Claim7 := { stood := { row := mcheckPowersRow, standIns := [], harness := (true, "fcce73969f28a15d25225ce1c78bfe116f38437ef56cebe0c3a6c0d9ca628f7b"), looks := false }, kinds := [], alts := [], laidByText := true, laidKinds := [.data, .data], laidTests := true, laidLooks := .later }
def McheckPowersCardSaid : Prop := Claim7.holds Tryd.pinned (.plain (OpenSpec.ofChange mcheckPowersSpec)) mcheckPowersCard

/-- THE TIED CARD OF 'notarylaw12.McheckShows'. -/
def mcheckShowsCard : Claim7 := { stood := { row := mcheckShowsRow, standIns := [], harness := (true, "fcce73969f28a15d25225ce1c78bfe116f38437ef56cebe0c3a6c0d9ca628f7b"), looks := false }, kinds := [], alts := [], laidByText := true, laidKinds := [.data, .data], laidTests := true, laidLooks := .later }
def McheckShowsCardSaid : Prop := Claim7.holds Tryd.pinned (.plain (OpenSpec.ofChange mcheckShowsSpec)) mcheckShowsCard

/-- THE TIED CARD OF 'notarytop.WholeIncluded'. -/
def wholeIncludedCard : Claim7 := { stood := { row := wholeIncludedRow, standIns := [], harness := (true, "fcce73969f28a15d25225ce1c78bfe116f38437ef56cebe0c3a6c0d9ca628f7b"), looks := false }, kinds := [], alts := [], laidByText := true, laidKinds := [.data, .data, .data], laidTests := true, laidLooks := .later }
def WholeIncludedCardSaid : Prop := Claim7.holds Tryd.pinned (.plain (OpenSpec.ofChange wholeIncludedSpec)) wholeIncludedCard

/-- THE TIED CARD OF 'notarytop.WholeRootOf'. -/
def wholeRootOfCard : Claim7 := { stood := { row := wholeRootOfRow, standIns := [], harness := (true, "fcce73969f28a15d25225ce1c78bfe116f38437ef56cebe0c3a6c0d9ca628f7b"), looks := false }, kinds := [], alts := [], laidByText := true, laidKinds := [.data, .data], laidTests := true, laidLooks := .later }
def WholeRootOfCardSaid : Prop := Claim7.holds Tryd.pinned (.plain (OpenSpec.ofChange wholeRootOfSpec)) wholeRootOfCard

/-- THE SECOND FORM's CARD OF 'notarylaw12.McheckCounts'. -/
def mcheckCountsUptoCard : Claim7 := { stood := { row := mcheckCountsUptoRow, standIns := [], harness := (true, "fcce73969f28a15d25225ce1c78bfe116f38437ef56cebe0c3a6c0d9ca628f7b"), looks := false }, kinds := [], alts := [], laidByText := true, laidKinds := [.data, .data], laidTests := true, laidLooks := .later }
def McheckCountsUptoCardSaid : Prop := Claim7.holds Tryd.pinned (.plain (OpenSpec.upto mcheckCountsSpec)) mcheckCountsUptoCard

/-- THE SECOND FORM's CARD OF 'notarylaw12.McheckPowers'. -/
def mcheckPowersUptoCard : Claim7 := { stood := { row := mcheckPowersUptoRow, standIns := [], harness := (true, "fcce73969f28a15d25225ce1c78bfe116f38437ef56cebe0c3a6c0d9ca628f7b"), looks := false }, kinds := [], alts := [], laidByText := true, laidKinds := [.data, .data], laidTests := true, laidLooks := .later }
def McheckPowersUptoCardSaid : Prop := Claim7.holds Tryd.pinned (.plain (OpenSpec.upto mcheckPowersSpec)) mcheckPowersUptoCard

/-- THE SECOND FORM's CARD OF 'notarylaw12.McheckShows'. -/
def mcheckShowsUptoCard : Claim7 := { stood := { row := mcheckShowsUptoRow, standIns := [], harness := (true, "fcce73969f28a15d25225ce1c78bfe116f38437ef56cebe0c3a6c0d9ca628f7b"), looks := false }, kinds := [], alts := [], laidByText := true, laidKinds := [.data, .data], laidTests := true, laidLooks := .later }
def McheckShowsUptoCardSaid : Prop := Claim7.holds Tryd.pinned (.plain (OpenSpec.upto mcheckShowsSpec)) mcheckShowsUptoCard

/-- THE SECOND FORM's CARD OF 'notarytop.WholeIncluded'. -/
def wholeIncludedUptoCard : Claim7 := { stood := { row := wholeIncludedUptoRow, standIns := [], harness := (true, "fcce73969f28a15d25225ce1c78bfe116f38437ef56cebe0c3a6c0d9ca628f7b"), looks := false }, kinds := [], alts := [], laidByText := true, laidKinds := [.data, .data, .data], laidTests := true, laidLooks := .later }
def WholeIncludedUptoCardSaid : Prop := Claim7.holds Tryd.pinned (.plain (OpenSpec.upto wholeIncludedSpec)) wholeIncludedUptoCard

/-- THE SECOND FORM's CARD OF 'notarytop.WholeRootOf'. -/
def wholeRootOfUptoCard : Claim7 := { stood := { row := wholeRootOfUptoRow, standIns := [], harness := (true, "fcce73969f28a15d25225ce1c78bfe116f38437ef56cebe0c3a6c0d9ca628f7b"), looks := false }, kinds := [], alts := [], laidByText := true, laidKinds := [.data, .data], laidTests := true, laidLooks := .later }
def WholeRootOfUptoCardSaid : Prop := Claim7.holds Tryd.pinned (.plain (OpenSpec.upto wholeRootOfSpec)) wholeRootOfUptoCard
end Rows
end Go.Proofs.YthafpaenggcpdabDoor
