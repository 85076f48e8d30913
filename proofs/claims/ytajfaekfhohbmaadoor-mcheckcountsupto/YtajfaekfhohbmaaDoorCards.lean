/-
  DERIVED. GIVEN WITH THE SEED: THE CARDS: each row of YtajfaekfhohbmaaDoorRows.lean that lists a variable, with what it lists TIED to the program's text (the seventh form; the later family's looks); each row that meets fmt, with fmt's text TOLD by the authors' own Lean function (tested against real Go, not proved from fmt's source: count such statements apart). THE CARD IS WHAT COUNTS. Prove the row's statement (the work); the ties are given (YtajfaekfhohbmaaDoorTie.lean); close each card by the builder's one call (the guide's Derived/Test/ToyasCard.lean, 'card_holds'). Laid BY PROGRAM, IN A SANDBOX (cutbox-door.mjs). By AI agents, Wed Nov 11 2026. No macro, syntax, notation, axiom, sorry.
-/
import Derived.Test.YtajfaekfhohbmaaDoorRows
import GoSem.ClaimSeven
namespace Go.Proofs.YtajfaekfhohbmaaDoor
namespace Rows

/-- THE TIED CARD OF 'notarylaw10.MtreeKeeps'. -/
def mtreeKeepsCard : Claim7 := { stood := { row := mtreeKeepsRow, standIns := [], harness := (true, "e37d051e23bd8a0275ffcd8bf91b32b023a0ad22590aaf72661c567285825641"), looks := false }, kinds := [], alts := [], laidByText := true, laidKinds := [.data, .data, .data], laidTests := true, laidLooks := .later }
def MtreeKeepsCardSaid : Prop := Claim7.holds Tryd.pinned (.plain (OpenSpec.ofChange mtreeKeepsSpec)) mtreeKeepsCard

/-- THE TIED CARD OF 'notarylaw11.MproofInclusions'. -/
def mproofInclusionsCard : Claim7 := { stood := { row := mproofInclusionsRow, standIns := [], harness := (true, "e37d051e23bd8a0275ffcd8bf91b32b023a0ad22590aaf72661c567285825641"), looks := false }, kinds := [], alts := [], laidByText := true, laidKinds := [.data, .data, .data], laidTests := true, laidLooks := .later }
def MproofInclusionsCardSaid : Prop := Claim7.holds Tryd.pinned (.plain (OpenSpec.ofChange mproofInclusionsSpec)) mproofInclusionsCard

/-- THE TIED CARD OF 'notarylaw11.MproofCounts'. -/
def mproofCountsCard : Claim7 := { stood := { row := mproofCountsRow, standIns := [], harness := (true, "e37d051e23bd8a0275ffcd8bf91b32b023a0ad22590aaf72661c567285825641"), looks := false }, kinds := [], alts := [], laidByText := true, laidKinds := [.data, .data, .data], laidTests := true, laidLooks := .later }
def MproofCountsCardSaid : Prop := Claim7.holds Tryd.pinned (.plain (OpenSpec.ofChange mproofCountsSpec)) mproofCountsCard

/-- THE TIED CARD OF 'notarylaw12.McheckCounts'. -/
def mcheckCountsCard : Claim7 := { stood := { row := mcheckCountsRow, standIns := [], harness := (true, "e37d051e23bd8a0275ffcd8bf91b32b023a0ad22590aaf72661c567285825641"), looks := false }, kinds := [], alts := [], laidByText := true, laidKinds := [.data, .data], laidTests := true, laidLooks := .later }
def McheckCountsCardSaid : Prop := Claim7.holds Tryd.pinned (.plain (OpenSpec.ofChange mcheckCountsSpec)) mcheckCountsCard

/-- THE TIED CARD OF 'notarytop.WholeTree'. -/
def wholeTreeCard : Claim7 := { stood := { row := wholeTreeRow, standIns := [], harness := (true, "e37d051e23bd8a0275ffcd8bf91b32b023a0ad22590aaf72661c567285825641"), looks := false }, kinds := [], alts := [], laidByText := true, laidKinds := [.data, .data, .data], laidTests := true, laidLooks := .later }
def WholeTreeCardSaid : Prop := Claim7.holds Tryd.pinned (.plain (OpenSpec.ofChange wholeTreeSpec)) wholeTreeCard

/-- THE TIED CARD OF 'notarytop.WholeCounts'. -/
def wholeCountsCard : Claim7 := { stood := { row := wholeCountsRow, standIns := [], harness := (true, "e37d051e23bd8a0275ffcd8bf91b32b023a0ad22590aaf72661c567285825641"), looks := false }, kinds := [], alts := [], laidByText := true, laidKinds := [.data, .data, .data], laidTests := true, laidLooks := .later }
def WholeCountsCardSaid : Prop := Claim7.holds Tryd.pinned (.plain (OpenSpec.ofChange wholeCountsSpec)) wholeCountsCard

/-- THE SECOND FORM's CARD OF 'notarylaw10.MtreeKeeps'. -/
def mtreeKeepsUptoCard : Claim7 := { stood := { row := mtreeKeepsUptoRow, standIns := [], harness := (true, "e37d051e23bd8a0275ffcd8bf91b32b023a0ad22590aaf72661c567285825641"), looks := false }, kinds := [], alts := [], laidByText := true, laidKinds := [.data, .data, .data], laidTests := true, laidLooks := .later }
def MtreeKeepsUptoCardSaid : Prop := Claim7.holds Tryd.pinned (.plain (OpenSpec.upto mtreeKeepsSpec)) mtreeKeepsUptoCard

/-- THE SECOND FORM's CARD OF 'notarylaw11.MproofInclusions'. -/
def mproofInclusionsUptoCard : Claim7 := { stood := { row := mproofInclusionsUptoRow, standIns := [], harness := (true, "e37d051e23bd8a0275ffcd8bf91b32b023a0ad22590aaf72661c567285825641"), looks := false }, kinds := [], alts := [], laidByText := true, laidKinds := [.data, .data, .data], laidTests := true, laidLooks := .later }
def MproofInclusionsUptoCardSaid : Prop := Claim7.holds Tryd.pinned (.plain (OpenSpec.upto mproofInclusionsSpec)) mproofInclusionsUptoCard

/-- THE SECOND FORM's CARD OF 'notarylaw11.MproofCounts'. -/
def mproofCountsUptoCard : Claim7 := { stood := { row := mproofCountsUptoRow, standIns := [], harness := (true, "e37d051e23bd8a0275ffcd8bf91b32b023a0ad22590aaf72661c567285825641"), looks := false }, kinds := [], alts := [], laidByText := true, laidKinds := [.data, .data, .data], laidTests := true, laidLooks := .later }
def MproofCountsUptoCardSaid : Prop := Claim7.holds Tryd.pinned (.plain (OpenSpec.upto mproofCountsSpec)) mproofCountsUptoCard

/-- THE SECOND FORM's CARD OF 'notarylaw12.McheckCounts'. -/
def mcheckCountsUptoCard : Claim7 := { stood := { row := mcheckCountsUptoRow, standIns := [], harness := (true, "e37d051e23bd8a0275ffcd8bf91b32b023a0ad22590aaf72661c567285825641"), looks := false }, kinds := [], alts := [], laidByText := true, laidKinds := [.data, .data], laidTests := true, laidLooks := .later }
def McheckCountsUptoCardSaid : Prop := Claim7.holds Tryd.pinned (.plain (OpenSpec.upto mcheckCountsSpec)) mcheckCountsUptoCard

/-- THE SECOND FORM's CARD OF 'notarytop.WholeTree'. -/
def wholeTreeUptoCard : Claim7 := { stood := { row := wholeTreeUptoRow, standIns := [], harness := (true, "e37d051e23bd8a0275ffcd8bf91b32b023a0ad22590aaf72661c567285825641"), looks := false }, kinds := [], alts := [], laidByText := true, laidKinds := [.data, .data, .data], laidTests := true, laidLooks := .later }
def WholeTreeUptoCardSaid : Prop := Claim7.holds Tryd.pinned (.plain (OpenSpec.upto wholeTreeSpec)) wholeTreeUptoCard

/-- THE SECOND FORM's CARD OF 'notarytop.WholeCounts'. -/
def wholeCountsUptoCard : Claim7 := { stood := { row := wholeCountsUptoRow, standIns := [], harness := (true, "e37d051e23bd8a0275ffcd8bf91b32b023a0ad22590aaf72661c567285825641"), looks := false }, kinds := [], alts := [], laidByText := true, laidKinds := [.data, .data, .data], laidTests := true, laidLooks := .later }
def WholeCountsUptoCardSaid : Prop := Claim7.holds Tryd.pinned (.plain (OpenSpec.upto wholeCountsSpec)) wholeCountsUptoCard
end Rows
end Go.Proofs.YtajfaekfhohbmaaDoor
