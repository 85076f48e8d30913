/-
  DERIVED. GIVEN WITH THE SEED: THE CARDS: each row of YtecadmldnjlibaaDoorRows.lean that lists a variable, with what it lists TIED to the program's text (the seventh form; the later family's looks); each row that meets fmt, with fmt's text TOLD by the authors' own Lean function (tested against real Go, not proved from fmt's source: count such statements apart). THE CARD IS WHAT COUNTS. Prove the row's statement (the work); the ties are given (YtecadmldnjlibaaDoorTie.lean); close each card by the builder's one call (the guide's Derived/Test/ToyasCard.lean, 'card_holds'). Laid BY PROGRAM, IN A SANDBOX (cutbox-door.mjs). By AI agents, Wed Nov 11 2026. No macro, syntax, notation, axiom, sorry.
-/
import Derived.Test.YtecadmldnjlibaaDoorRows
import GoSem.ClaimSeven
namespace Go.Proofs.YtecadmldnjlibaaDoor
namespace Rows

/-- THE TIED CARD OF 'notarylaw10.MtreeGrows'. -/
def mtreeGrowsCard : Claim7 := { stood := { row := mtreeGrowsRow, standIns := [], harness := (true, "d3a1bb34d33dcc58ff26815c78faee3ffb1b50a41940559e183093d6a66aa03e"), looks := false }, kinds := [], alts := [], laidByText := true, laidKinds := [.data, .data, .data], laidTests := true, laidLooks := .later }
def MtreeGrowsCardSaid : Prop := Claim7.holds Tryd.pinned (.plain (OpenSpec.ofChange mtreeGrowsSpec)) mtreeGrowsCard

/-- THE TIED CARD OF 'notarylaw10.MtreeKeeps'. -/
def mtreeKeepsCard : Claim7 := { stood := { row := mtreeKeepsRow, standIns := [], harness := (true, "d3a1bb34d33dcc58ff26815c78faee3ffb1b50a41940559e183093d6a66aa03e"), looks := false }, kinds := [], alts := [], laidByText := true, laidKinds := [.data, .data, .data], laidTests := true, laidLooks := .later }
def MtreeKeepsCardSaid : Prop := Claim7.holds Tryd.pinned (.plain (OpenSpec.ofChange mtreeKeepsSpec)) mtreeKeepsCard

/-- THE TIED CARD OF 'notarylaw11.MproofFixed'. -/
def mproofFixedCard : Claim7 := { stood := { row := mproofFixedRow, standIns := [], harness := (true, "d3a1bb34d33dcc58ff26815c78faee3ffb1b50a41940559e183093d6a66aa03e"), looks := false }, kinds := [], alts := [], laidByText := true, laidKinds := [.data, .data, .data], laidTests := true, laidLooks := .later }
def MproofFixedCardSaid : Prop := Claim7.holds Tryd.pinned (.plain (OpenSpec.ofChange mproofFixedSpec)) mproofFixedCard

/-- THE TIED CARD OF 'notarylaw11.MproofSince'. -/
def mproofSinceCard : Claim7 := { stood := { row := mproofSinceRow, standIns := [], harness := (true, "d3a1bb34d33dcc58ff26815c78faee3ffb1b50a41940559e183093d6a66aa03e"), looks := false }, kinds := [], alts := [], laidByText := true, laidKinds := [.data, .data, .data], laidTests := true, laidLooks := .later }
def MproofSinceCardSaid : Prop := Claim7.holds Tryd.pinned (.plain (OpenSpec.ofChange mproofSinceSpec)) mproofSinceCard

/-- THE TIED CARD OF 'notarylaw11.MproofMemory'. -/
def mproofMemoryCard : Claim7 := { stood := { row := mproofMemoryRow, standIns := [], harness := (true, "d3a1bb34d33dcc58ff26815c78faee3ffb1b50a41940559e183093d6a66aa03e"), looks := false }, kinds := [], alts := [], laidByText := true, laidKinds := [.data, .data, .data], laidTests := true, laidLooks := .later }
def MproofMemoryCardSaid : Prop := Claim7.holds Tryd.pinned (.plain (OpenSpec.ofChange mproofMemorySpec)) mproofMemoryCard

/-- THE SECOND FORM's CARD OF 'notarylaw10.MtreeGrows'. -/
def mtreeGrowsUptoCard : Claim7 := { stood := { row := mtreeGrowsUptoRow, standIns := [], harness := (true, "d3a1bb34d33dcc58ff26815c78faee3ffb1b50a41940559e183093d6a66aa03e"), looks := false }, kinds := [], alts := [], laidByText := true, laidKinds := [.data, .data, .data], laidTests := true, laidLooks := .later }
def MtreeGrowsUptoCardSaid : Prop := Claim7.holds Tryd.pinned (.plain (OpenSpec.upto mtreeGrowsSpec)) mtreeGrowsUptoCard

/-- THE SECOND FORM's CARD OF 'notarylaw10.MtreeKeeps'. -/
def mtreeKeepsUptoCard : Claim7 := { stood := { row := mtreeKeepsUptoRow, standIns := [], harness := (true, "d3a1bb34d33dcc58ff26815c78faee3ffb1b50a41940559e183093d6a66aa03e"), looks := false }, kinds := [], alts := [], laidByText := true, laidKinds := [.data, .data, .data], laidTests := true, laidLooks := .later }
def MtreeKeepsUptoCardSaid : Prop := Claim7.holds Tryd.pinned (.plain (OpenSpec.upto mtreeKeepsSpec)) mtreeKeepsUptoCard

/-- THE SECOND FORM's CARD OF 'notarylaw11.MproofFixed'. -/
def mproofFixedUptoCard : Claim7 := { stood := { row := mproofFixedUptoRow, standIns := [], harness := (true, "d3a1bb34d33dcc58ff26815c78faee3ffb1b50a41940559e183093d6a66aa03e"), looks := false }, kinds := [], alts := [], laidByText := true, laidKinds := [.data, .data, .data], laidTests := true, laidLooks := .later }
def MproofFixedUptoCardSaid : Prop := Claim7.holds Tryd.pinned (.plain (OpenSpec.upto mproofFixedSpec)) mproofFixedUptoCard

/-- THE SECOND FORM's CARD OF 'notarylaw11.MproofSince'. -/
def mproofSinceUptoCard : Claim7 := { stood := { row := mproofSinceUptoRow, standIns := [], harness := (true, "d3a1bb34d33dcc58ff26815c78faee3ffb1b50a41940559e183093d6a66aa03e"), looks := false }, kinds := [], alts := [], laidByText := true, laidKinds := [.data, .data, .data], laidTests := true, laidLooks := .later }
def MproofSinceUptoCardSaid : Prop := Claim7.holds Tryd.pinned (.plain (OpenSpec.upto mproofSinceSpec)) mproofSinceUptoCard

/-- THE SECOND FORM's CARD OF 'notarylaw11.MproofMemory'. -/
def mproofMemoryUptoCard : Claim7 := { stood := { row := mproofMemoryUptoRow, standIns := [], harness := (true, "d3a1bb34d33dcc58ff26815c78faee3ffb1b50a41940559e183093d6a66aa03e"), looks := false }, kinds := [], alts := [], laidByText := true, laidKinds := [.data, .data, .data], laidTests := true, laidLooks := .later }
def MproofMemoryUptoCardSaid : Prop := Claim7.holds Tryd.pinned (.plain (OpenSpec.upto mproofMemorySpec)) mproofMemoryUptoCard
end Rows
end Go.Proofs.YtecadmldnjlibaaDoor
