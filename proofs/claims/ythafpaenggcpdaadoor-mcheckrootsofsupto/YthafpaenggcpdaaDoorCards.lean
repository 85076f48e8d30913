/-
  DERIVED. GIVEN WITH THE SEED: THE CARDS: each row of YthafpaenggcpdaaDoorRows.lean that lists a variable, with what it lists TIED to the program's text (the seventh form; the later family's looks); each row that meets fmt, with fmt's text TOLD by the authors' own Lean function (tested against real Go, not proved from fmt's source: count such statements apart). THE CARD IS WHAT COUNTS. Prove the row's statement (the work); the ties are given (YthafpaenggcpdaaDoorTie.lean); close each card by the builder's one call (the guide's Derived/Test/ToyasCard.lean, 'card_holds'). Laid BY PROGRAM, IN A SANDBOX (cutbox-door.mjs). By AI agents, Wed Nov 11 2026. No macro, syntax, notation, axiom, sorry.
-/
import Derived.Test.YthafpaenggcpdaaDoorRows
import GoSem.ClaimSeven
namespace Go.Proofs.YthafpaenggcpdaaDoor
namespace Rows

/-- THE TIED CARD OF 'notarylaw12.McheckRootOfs'. -/
def mcheckRootOfsCard : Claim7 := { stood := { row := mcheckRootOfsRow, standIns := [], harness := (true, "bceb9e648a2eefafd5f17760a5282102e1e6f8e1b59ec0c2e65d78bdaf4bb4e8"), looks := false }, kinds := [], alts := [], laidByText := true, laidKinds := [.data, .data], laidTests := true, laidLooks := .later }
def McheckRootOfsCardSaid : Prop := Claim7.holds Tryd.pinned (.plain (OpenSpec.ofChange mcheckRootOfsSpec)) mcheckRootOfsCard

/-- THE TIED CARD OF 'notarylaw12.McheckInclusions'. -/
def mcheckInclusionsCard : Claim7 := { stood := { row := mcheckInclusionsRow, standIns := [], harness := (true, "bceb9e648a2eefafd5f17760a5282102e1e6f8e1b59ec0c2e65d78bdaf4bb4e8"), looks := false }, kinds := [], alts := [], laidByText := true, laidKinds := [.data, .data], laidTests := true, laidLooks := .later }
def McheckInclusionsCardSaid : Prop := Claim7.holds Tryd.pinned (.plain (OpenSpec.ofChange mcheckInclusionsSpec)) mcheckInclusionsCard

/-- THE TIED CARD OF 'notarylaw12.McheckRootsOfs'. -/
def mcheckRootsOfsCard : Claim7 := { stood := { row := mcheckRootsOfsRow, standIns := [], harness := (true, "bceb9e648a2eefafd5f17760a5282102e1e6f8e1b59ec0c2e65d78bdaf4bb4e8"), looks := false }, kinds := [], alts := [], laidByText := true, laidKinds := [.data, .data], laidTests := true, laidLooks := .later }
def McheckRootsOfsCardSaid : Prop := Claim7.holds Tryd.pinned (.plain (OpenSpec.ofChange mcheckRootsOfsSpec)) mcheckRootsOfsCard

/-- THE TIED CARD OF 'notarylaw12.McheckConsistencies'. -/
def mcheckConsistenciesCard : Claim7 := { stood := { row := mcheckConsistenciesRow, standIns := [], harness := (true, "bceb9e648a2eefafd5f17760a5282102e1e6f8e1b59ec0c2e65d78bdaf4bb4e8"), looks := false }, kinds := [], alts := [], laidByText := true, laidKinds := [.data, .data], laidTests := true, laidLooks := .later }
def McheckConsistenciesCardSaid : Prop := Claim7.holds Tryd.pinned (.plain (OpenSpec.ofChange mcheckConsistenciesSpec)) mcheckConsistenciesCard

/-- THE TIED CARD OF 'notarylaw12.McheckKeeps'. -/
def mcheckKeepsCard : Claim7 := { stood := { row := mcheckKeepsRow, standIns := [], harness := (true, "bceb9e648a2eefafd5f17760a5282102e1e6f8e1b59ec0c2e65d78bdaf4bb4e8"), looks := false }, kinds := [], alts := [], laidByText := true, laidKinds := [.data, .data], laidTests := true, laidLooks := .later }
def McheckKeepsCardSaid : Prop := Claim7.holds Tryd.pinned (.plain (OpenSpec.ofChange mcheckKeepsSpec)) mcheckKeepsCard

/-- THE TIED CARD OF 'notarylaw12.McheckHonest'. -/
def mcheckHonestCard : Claim7 := { stood := { row := mcheckHonestRow, standIns := [], harness := (true, "bceb9e648a2eefafd5f17760a5282102e1e6f8e1b59ec0c2e65d78bdaf4bb4e8"), looks := false }, kinds := [], alts := [], laidByText := true, laidKinds := [.data, .data, .data], laidTests := true, laidLooks := .later }
def McheckHonestCardSaid : Prop := Claim7.holds Tryd.pinned (.plain (OpenSpec.ofChange mcheckHonestSpec)) mcheckHonestCard

/-- THE SECOND FORM's CARD OF 'notarylaw12.McheckRootOfs'. -/
def mcheckRootOfsUptoCard : Claim7 := { stood := { row := mcheckRootOfsUptoRow, standIns := [], harness := (true, "bceb9e648a2eefafd5f17760a5282102e1e6f8e1b59ec0c2e65d78bdaf4bb4e8"), looks := false }, kinds := [], alts := [], laidByText := true, laidKinds := [.data, .data], laidTests := true, laidLooks := .later }
def McheckRootOfsUptoCardSaid : Prop := Claim7.holds Tryd.pinned (.plain (OpenSpec.upto mcheckRootOfsSpec)) mcheckRootOfsUptoCard

/-- THE SECOND FORM's CARD OF 'notarylaw12.McheckInclusions'. -/
def mcheckInclusionsUptoCard : Claim7 := { stood := { row := mcheckInclusionsUptoRow, standIns := [], harness := (true, "bceb9e648a2eefafd5f17760a5282102e1e6f8e1b59ec0c2e65d78bdaf4bb4e8"), looks := false }, kinds := [], alts := [], laidByText := true, laidKinds := [.data, .data], laidTests := true, laidLooks := .later }
def McheckInclusionsUptoCardSaid : Prop := Claim7.holds Tryd.pinned (.plain (OpenSpec.upto mcheckInclusionsSpec)) mcheckInclusionsUptoCard

/-- THE SECOND FORM's CARD OF 'notarylaw12.McheckRootsOfs'. -/
def mcheckRootsOfsUptoCard : Claim7 := { stood := { row := mcheckRootsOfsUptoRow, standIns := [], harness := (true, "bceb9e648a2eefafd5f17760a5282102e1e6f8e1b59ec0c2e65d78bdaf4bb4e8"), looks := false }, kinds := [], alts := [], laidByText := true, laidKinds := [.data, .data], laidTests := true, laidLooks := .later }
def McheckRootsOfsUptoCardSaid : Prop := Claim7.holds Tryd.pinned (.plain (OpenSpec.upto mcheckRootsOfsSpec)) mcheckRootsOfsUptoCard

/-- THE SECOND FORM's CARD OF 'notarylaw12.McheckConsistencies'. -/
def mcheckConsistenciesUptoCard : Claim7 := { stood := { row := mcheckConsistenciesUptoRow, standIns := [], harness := (true, "bceb9e648a2eefafd5f17760a5282102e1e6f8e1b59ec0c2e65d78bdaf4bb4e8"), looks := false }, kinds := [], alts := [], laidByText := true, laidKinds := [.data, .data], laidTests := true, laidLooks := .later }
def McheckConsistenciesUptoCardSaid : Prop := Claim7.holds Tryd.pinned (.plain (OpenSpec.upto mcheckConsistenciesSpec)) mcheckConsistenciesUptoCard

/-- THE SECOND FORM's CARD OF 'notarylaw12.McheckKeeps'. -/
def mcheckKeepsUptoCard : Claim7 := { stood := { row := mcheckKeepsUptoRow, standIns := [], harness := (true, "bceb9e648a2eefafd5f17760a5282102e1e6f8e1b59ec0c2e65d78bdaf4bb4e8"), looks := false }, kinds := [], alts := [], laidByText := true, laidKinds := [.data, .data], laidTests := true, laidLooks := .later }
def McheckKeepsUptoCardSaid : Prop := Claim7.holds Tryd.pinned (.plain (OpenSpec.upto mcheckKeepsSpec)) mcheckKeepsUptoCard

/-- THE SECOND FORM's CARD OF 'notarylaw12.McheckHonest'. -/
def mcheckHonestUptoCard : Claim7 := { stood := { row := mcheckHonestUptoRow, standIns := [], harness := (true, "bceb9e648a2eefafd5f17760a5282102e1e6f8e1b59ec0c2e65d78bdaf4bb4e8"), looks := false }, kinds := [], alts := [], laidByText := true, laidKinds := [.data, .data, .data], laidTests := true, laidLooks := .later }
def McheckHonestUptoCardSaid : Prop := Claim7.holds Tryd.pinned (.plain (OpenSpec.upto mcheckHonestSpec)) mcheckHonestUptoCard
end Rows
end Go.Proofs.YthafpaenggcpdaaDoor
