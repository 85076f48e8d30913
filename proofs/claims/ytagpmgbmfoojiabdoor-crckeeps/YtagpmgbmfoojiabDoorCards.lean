/-
  DERIVED. GIVEN WITH THE SEED: THE CARDS: each row of YtagpmgbmfoojiabDoorRows.lean that lists a variable, with what it lists TIED to the program's text (the seventh form; the later family's looks); each row that meets fmt, with fmt's text TOLD by the authors' own Lean function (tested against real Go, not proved from fmt's source: count such statements apart). THE CARD IS WHAT COUNTS. Prove the row's statement (the work); the ties are given (YtagpmgbmfoojiabDoorTie.lean); close each card by the builder's one call (the guide's Derived/Test/ToyasCard.lean, 'card_holds'). Laid BY PROGRAM, IN A SANDBOX (cutbox-door.mjs). By AI agents, Wed Nov 11 2026. No macro, syntax, notation, axiom, sorry.
-/
import Derived.Test.YtagpmgbmfoojiabDoorRows
import GoSem.ClaimSeven
namespace Go.Proofs.YtagpmgbmfoojiabDoor
namespace Rows

/-- THE TIED CARD OF 'notarylaw04.CrcNests'. -/
def crcNestsCard : Claim7 := { stood := { row := crcNestsRow, standIns := [], harness := (true, "1c3a2148e5ef4595d6b7b775619ebc6c7615ff4eee9e30f502d07f729aa2407c"), looks := false }, kinds := [], alts := [], laidByText := true, laidKinds := [.data], laidTests := true, laidLooks := .later }
def CrcNestsCardSaid : Prop := Claim7.holds Tryd.pinned (.plain (OpenSpec.ofChange crcNestsSpec)) crcNestsCard

/-- THE TIED CARD OF 'notarylaw04.CrcKeeps'. -/
def crcKeepsCard : Claim7 := { stood := { row := crcKeepsRow, standIns := [], harness := (true, "1c3a2148e5ef4595d6b7b775619ebc6c7615ff4eee9e30f502d07f729aa2407c"), looks := false }, kinds := [], alts := [], laidByText := true, laidKinds := [.data], laidTests := true, laidLooks := .later }
def CrcKeepsCardSaid : Prop := Claim7.holds Tryd.pinned (.plain (OpenSpec.ofChange crcKeepsSpec)) crcKeepsCard

/-- THE TIED CARD OF 'notarytop.WholeSums'. -/
def wholeSumsCard : Claim7 := { stood := { row := wholeSumsRow, standIns := [], harness := (true, "1c3a2148e5ef4595d6b7b775619ebc6c7615ff4eee9e30f502d07f729aa2407c"), looks := false }, kinds := [], alts := [], laidByText := true, laidKinds := [.data], laidTests := true, laidLooks := .later }
def WholeSumsCardSaid : Prop := Claim7.holds Tryd.pinned (.plain (OpenSpec.ofChange wholeSumsSpec)) wholeSumsCard

/-- THE SECOND FORM's CARD OF 'notarylaw04.CrcNests'. -/
def crcNestsUptoCard : Claim7 := { stood := { row := crcNestsUptoRow, standIns := [], harness := (true, "1c3a2148e5ef4595d6b7b775619ebc6c7615ff4eee9e30f502d07f729aa2407c"), looks := false }, kinds := [], alts := [], laidByText := true, laidKinds := [.data], laidTests := true, laidLooks := .later }
def CrcNestsUptoCardSaid : Prop := Claim7.holds Tryd.pinned (.plain (OpenSpec.upto crcNestsSpec)) crcNestsUptoCard

/-- THE SECOND FORM's CARD OF 'notarylaw04.CrcKeeps'. -/
def crcKeepsUptoCard : Claim7 := { stood := { row := crcKeepsUptoRow, standIns := [], harness := (true, "1c3a2148e5ef4595d6b7b775619ebc6c7615ff4eee9e30f502d07f729aa2407c"), looks := false }, kinds := [], alts := [], laidByText := true, laidKinds := [.data], laidTests := true, laidLooks := .later }
def CrcKeepsUptoCardSaid : Prop := Claim7.holds Tryd.pinned (.plain (OpenSpec.upto crcKeepsSpec)) crcKeepsUptoCard

/-- THE SECOND FORM's CARD OF 'notarytop.WholeSums'. -/
def wholeSumsUptoCard : Claim7 := { stood := { row := wholeSumsUptoRow, standIns := [], harness := (true, "1c3a2148e5ef4595d6b7b775619ebc6c7615ff4eee9e30f502d07f729aa2407c"), looks := false }, kinds := [], alts := [], laidByText := true, laidKinds := [.data], laidTests := true, laidLooks := .later }
def WholeSumsUptoCardSaid : Prop := Claim7.holds Tryd.pinned (.plain (OpenSpec.upto wholeSumsSpec)) wholeSumsUptoCard
end Rows
end Go.Proofs.YtagpmgbmfoojiabDoor
