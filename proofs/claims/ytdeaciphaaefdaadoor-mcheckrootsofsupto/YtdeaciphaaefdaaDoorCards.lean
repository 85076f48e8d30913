/-
  DERIVED. GIVEN WITH THE SEED: THE CARDS: each row of YtdeaciphaaefdaaDoorRows.lean that lists a variable, with what it lists TIED to the program's text (the seventh form; the later family's looks); each row that meets fmt, with fmt's text TOLD by the authors' own Lean function (tested against real Go, not proved from fmt's source: count such statements apart). THE CARD IS WHAT COUNTS. Prove the row's statement (the work); the ties are given (YtdeaciphaaefdaaDoorTie.lean); close each card by the builder's one call (the guide's Derived/Test/ToyasCard.lean, 'card_holds'). Laid BY PROGRAM, IN A SANDBOX (cutbox-door.mjs). By AI agents, Wed Nov 11 2026. No macro, syntax, notation, axiom, sorry.
-/
import Derived.Test.YtdeaciphaaefdaaDoorRows
import GoSem.ClaimSeven
namespace Go.Proofs.YtdeaciphaaefdaaDoor
namespace Rows

/-- THE TIED CARD OF 'notarylaw12.McheckRootsOfs'. -/
def mcheckRootsOfsCard : Claim7 := { stood := { row := mcheckRootsOfsRow, standIns := [], harness := (true, "8545de97dde068a565a78647640cd88a03556ff506bf71e5fc0bee379da7174d"), looks := false }, kinds := [], alts := [], laidByText := true, laidKinds := [.data, .data], laidTests := true, laidLooks := .later }
def McheckRootsOfsCardSaid : Prop := Claim7.holds Tryd.pinned (.plain (OpenSpec.ofChange mcheckRootsOfsSpec)) mcheckRootsOfsCard

/-- THE TIED CARD OF 'notarylaw12.McheckKeeps'. -/
def mcheckKeepsCard : Claim7 := { stood := { row := mcheckKeepsRow, standIns := [], harness := (true, "8545de97dde068a565a78647640cd88a03556ff506bf71e5fc0bee379da7174d"), looks := false }, kinds := [], alts := [], laidByText := true, laidKinds := [.data, .data], laidTests := true, laidLooks := .later }
def McheckKeepsCardSaid : Prop := Claim7.holds Tryd.pinned (.plain (OpenSpec.ofChange mcheckKeepsSpec)) mcheckKeepsCard

/-- THE TIED CARD OF 'notarylaw12.McheckShows'. -/
def mcheckShowsCard : Claim7 := { stood := { row := mcheckShowsRow, standIns := [], harness := (true, "8545de97dde068a565a78647640cd88a03556ff506bf71e5fc0bee379da7174d"), looks := false }, kinds := [], alts := [], laidByText := true, laidKinds := [.data, .data], laidTests := true, laidLooks := .later }
def McheckShowsCardSaid : Prop := Claim7.holds Tryd.pinned (.plain (OpenSpec.ofChange mcheckShowsSpec)) mcheckShowsCard

/-- THE SECOND FORM's CARD OF 'notarylaw12.McheckRootsOfs'. -/
def mcheckRootsOfsUptoCard : Claim7 := { stood := { row := mcheckRootsOfsUptoRow, standIns := [], harness := (true, "8545de97dde068a565a78647640cd88a03556ff506bf71e5fc0bee379da7174d"), looks := false }, kinds := [], alts := [], laidByText := true, laidKinds := [.data, .data], laidTests := true, laidLooks := .later }
def McheckRootsOfsUptoCardSaid : Prop := Claim7.holds Tryd.pinned (.plain (OpenSpec.upto mcheckRootsOfsSpec)) mcheckRootsOfsUptoCard

/-- THE SECOND FORM's CARD OF 'notarylaw12.McheckKeeps'. -/
def mcheckKeepsUptoCard : Claim7 := { stood := { row := mcheckKeepsUptoRow, standIns := [], harness := (true, "8545de97dde068a565a78647640cd88a03556ff506bf71e5fc0bee379da7174d"), looks := false }, kinds := [], alts := [], laidByText := true, laidKinds := [.data, .data], laidTests := true, laidLooks := .later }
def McheckKeepsUptoCardSaid : Prop := Claim7.holds Tryd.pinned (.plain (OpenSpec.upto mcheckKeepsSpec)) mcheckKeepsUptoCard

/-- THE SECOND FORM's CARD OF 'notarylaw12.McheckShows'. -/
def mcheckShowsUptoCard : Claim7 := { stood := { row := mcheckShowsUptoRow, standIns := [], harness := (true, "8545de97dde068a565a78647640cd88a03556ff506bf71e5fc0bee379da7174d"), looks := false }, kinds := [], alts := [], laidByText := true, laidKinds := [.data, .data], laidTests := true, laidLooks := .later }
def McheckShowsUptoCardSaid : Prop := Claim7.holds Tryd.pinned (.plain (OpenSpec.upto mcheckShowsSpec)) mcheckShowsUptoCard
end Rows
end Go.Proofs.YtdeaciphaaefdaaDoor
