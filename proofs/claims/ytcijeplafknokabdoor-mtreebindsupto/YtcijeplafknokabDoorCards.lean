/-
  DERIVED. GIVEN WITH THE SEED: THE CARDS: each row of YtcijeplafknokabDoorRows.lean that lists a variable, with what it lists TIED to the program's text (the seventh form; the later family's looks); each row that meets fmt, with fmt's text TOLD by the authors' own Lean function (tested against real Go, not proved from fmt's source: count such statements apart). THE CARD IS WHAT COUNTS. Prove the row's statement (the work); the ties are given (YtcijeplafknokabDoorTie.lean); close each card by the builder's one call (the guide's Derived/Test/ToyasCard.lean, 'card_holds'). Laid BY PROGRAM, IN A SANDBOX (cutbox-door.mjs). By AI agents, Wed Nov 11 2026. No macro, syntax, notation, axiom, sorry.
-/
import Derived.Test.YtcijeplafknokabDoorRows
import GoSem.ClaimSeven
namespace Go.Proofs.YtcijeplafknokabDoor
namespace Rows

/-- THE TIED CARD OF 'notarylaw10.MtreeForks'. -/
def mtreeForksCard : Claim7 := { stood := { row := mtreeForksRow, standIns := [], harness := (true, "e70b60a2be9de79797221282d5e8966ebf0dc70e4c11c938eac9213ecfaf1893"), looks := false }, kinds := [], alts := [], laidByText := true, laidKinds := [.data, .data, .data], laidTests := true, laidLooks := .later }
def MtreeForksCardSaid : Prop := Claim7.holds Tryd.pinned (.plain (OpenSpec.ofChange mtreeForksSpec)) mtreeForksCard

/-- THE TIED CARD OF 'notarylaw10.MtreeBinds'. -/
def mtreeBindsCard : Claim7 := { stood := { row := mtreeBindsRow, standIns := [], harness := (true, "e70b60a2be9de79797221282d5e8966ebf0dc70e4c11c938eac9213ecfaf1893"), looks := false }, kinds := [], alts := [], laidByText := true, laidKinds := [.data, .data, .data], laidTests := true, laidLooks := .later }
def MtreeBindsCardSaid : Prop := Claim7.holds Tryd.pinned (.plain (OpenSpec.ofChange mtreeBindsSpec)) mtreeBindsCard

/-- THE SECOND FORM's CARD OF 'notarylaw10.MtreeForks'. -/
def mtreeForksUptoCard : Claim7 := { stood := { row := mtreeForksUptoRow, standIns := [], harness := (true, "e70b60a2be9de79797221282d5e8966ebf0dc70e4c11c938eac9213ecfaf1893"), looks := false }, kinds := [], alts := [], laidByText := true, laidKinds := [.data, .data, .data], laidTests := true, laidLooks := .later }
def MtreeForksUptoCardSaid : Prop := Claim7.holds Tryd.pinned (.plain (OpenSpec.upto mtreeForksSpec)) mtreeForksUptoCard

/-- THE SECOND FORM's CARD OF 'notarylaw10.MtreeBinds'. -/
def mtreeBindsUptoCard : Claim7 := { stood := { row := mtreeBindsUptoRow, standIns := [], harness := (true, "e70b60a2be9de79797221282d5e8966ebf0dc70e4c11c938eac9213ecfaf1893"), looks := false }, kinds := [], alts := [], laidByText := true, laidKinds := [.data, .data, .data], laidTests := true, laidLooks := .later }
def MtreeBindsUptoCardSaid : Prop := Claim7.holds Tryd.pinned (.plain (OpenSpec.upto mtreeBindsSpec)) mtreeBindsUptoCard
end Rows
end Go.Proofs.YtcijeplafknokabDoor
