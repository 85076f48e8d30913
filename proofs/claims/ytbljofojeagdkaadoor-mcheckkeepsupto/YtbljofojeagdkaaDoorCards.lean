/-
  DERIVED. GIVEN WITH THE SEED: THE CARDS: each row of YtbljofojeagdkaaDoorRows.lean that lists a variable, with what it lists TIED to the program's text (the seventh form; the later family's looks); each row that meets fmt, with fmt's text TOLD by the authors' own Lean function (tested against real Go, not proved from fmt's source: count such statements apart). THE CARD IS WHAT COUNTS. Prove the row's statement (the work); the ties are given (YtbljofojeagdkaaDoorTie.lean); close each card by the builder's one call (the guide's Derived/Test/ToyasCard.lean, 'card_holds'). Laid BY PROGRAM, IN A SANDBOX (cutbox-door.mjs). By AI agents, Wed Nov 11 2026. No macro, syntax, notation, axiom, sorry.
-/
import Derived.Test.YtbljofojeagdkaaDoorRows
import GoSem.ClaimSeven
namespace Go.Proofs.YtbljofojeagdkaaDoor
namespace Rows

/-- THE TIED CARD OF 'notarylaw12.McheckKeeps'. -/
def mcheckKeepsCard : Claim7 := { stood := { row := mcheckKeepsRow, standIns := [], harness := (true, "546733f5a39d78046374a068a6603b8b5627293f108e316a64107afe1e5fa21e"), looks := false }, kinds := [], alts := [], laidByText := true, laidKinds := [.data, .data], laidTests := true, laidLooks := .later }
def McheckKeepsCardSaid : Prop := Claim7.holds Tryd.pinned (.plain (OpenSpec.ofChange mcheckKeepsSpec)) mcheckKeepsCard

/-- THE TIED CARD OF 'notarylaw12.McheckHonest'. -/
def mcheckHonestCard : Claim7 := { stood := { row := mcheckHonestRow, standIns := [], harness := (true, "546733f5a39d78046374a068a6603b8b5627293f108e316a64107afe1e5fa21e"), looks := false }, kinds := [], alts := [], laidByText := true, laidKinds := [.data, .data, .data], laidTests := true, laidLooks := .later }
def McheckHonestCardSaid : Prop := Claim7.holds Tryd.pinned (.plain (OpenSpec.ofChange mcheckHonestSpec)) mcheckHonestCard

/-- THE TIED CARD OF 'notarytop.WholeIncluded'. -/
def wholeIncludedCard : Claim7 := { stood := { row := wholeIncludedRow, standIns := [], harness := (true, "546733f5a39d78046374a068a6603b8b5627293f108e316a64107afe1e5fa21e"), looks := false }, kinds := [], alts := [], laidByText := true, laidKinds := [.data, .data, .data], laidTests := true, laidLooks := .later }
def WholeIncludedCardSaid : Prop := Claim7.holds Tryd.pinned (.plain (OpenSpec.ofChange wholeIncludedSpec)) wholeIncludedCard

/-- THE SECOND FORM's CARD OF 'notarylaw12.McheckKeeps'. -/
def mcheckKeepsUptoCard : Claim7 := { stood := { row := mcheckKeepsUptoRow, standIns := [], harness := (true, "546733f5a39d78046374a068a6603b8b5627293f108e316a64107afe1e5fa21e"), looks := false }, kinds := [], alts := [], laidByText := true, laidKinds := [.data, .data], laidTests := true, laidLooks := .later }
def McheckKeepsUptoCardSaid : Prop := Claim7.holds Tryd.pinned (.plain (OpenSpec.upto mcheckKeepsSpec)) mcheckKeepsUptoCard

/-- THE SECOND FORM's CARD OF 'notarylaw12.McheckHonest'. -/
def mcheckHonestUptoCard : Claim7 := { stood := { row := mcheckHonestUptoRow, standIns := [], harness := (true, "546733f5a39d78046374a068a6603b8b5627293f108e316a64107afe1e5fa21e"), looks := false }, kinds := [], alts := [], laidByText := true, laidKinds := [.data, .data, .data], laidTests := true, laidLooks := .later }
def McheckHonestUptoCardSaid : Prop := Claim7.holds Tryd.pinned (.plain (OpenSpec.upto mcheckHonestSpec)) mcheckHonestUptoCard

/-- THE SECOND FORM's CARD OF 'notarytop.WholeIncluded'. -/
def wholeIncludedUptoCard : Claim7 := { stood := { row := wholeIncludedUptoRow, standIns := [], harness := (true, "546733f5a39d78046374a068a6603b8b5627293f108e316a64107afe1e5fa21e"), looks := false }, kinds := [], alts := [], laidByText := true, laidKinds := [.data, .data, .data], laidTests := true, laidLooks := .later }
def WholeIncludedUptoCardSaid : Prop := Claim7.holds Tryd.pinned (.plain (OpenSpec.upto wholeIncludedSpec)) wholeIncludedUptoCard
end Rows
end Go.Proofs.YtbljofojeagdkaaDoor
