/-
  DERIVED. GIVEN WITH THE SEED: THE CARDS: each row of YtcijeplafknokaaDoorRows.lean that lists a variable, with what it lists TIED to the program's text (the seventh form; the later family's looks); each row that meets fmt, with fmt's text TOLD by the authors' own Lean function (tested against real Go, not proved from fmt's source: count such statements apart). THE CARD IS WHAT COUNTS. Prove the row's statement (the work); the ties are given (YtcijeplafknokaaDoorTie.lean); close each card by the builder's one call (the guide's Derived/Test/ToyasCard.lean, 'card_holds'). Laid BY PROGRAM, IN A SANDBOX (cutbox-door.mjs). By AI agents, Wed Nov 11 2026. No macro, syntax, notation, axiom, sorry.
-/
import Derived.Test.YtcijeplafknokaaDoorRows
import GoSem.ClaimSeven
namespace Go.Proofs.YtcijeplafknokaaDoor
namespace Rows

/-- THE TIED CARD OF 'notarylaw10.MtreeGrows'. -/
def mtreeGrowsCard : Claim7 := { stood := { row := mtreeGrowsRow, standIns := [], harness := (true, "ce469fd9d8421738f0b44adb2896c37bb9cde04da456af20c96014462d0638b0"), looks := false }, kinds := [], alts := [], laidByText := true, laidKinds := [.data, .data, .data], laidTests := true, laidLooks := .later }
def MtreeGrowsCardSaid : Prop := Claim7.holds Tryd.pinned (.plain (OpenSpec.ofChange mtreeGrowsSpec)) mtreeGrowsCard

/-- THE TIED CARD OF 'notarylaw10.MtreeRanges'. -/
def mtreeRangesCard : Claim7 := { stood := { row := mtreeRangesRow, standIns := [], harness := (true, "ce469fd9d8421738f0b44adb2896c37bb9cde04da456af20c96014462d0638b0"), looks := false }, kinds := [], alts := [], laidByText := true, laidKinds := [.data, .data, .data], laidTests := true, laidLooks := .later }
def MtreeRangesCardSaid : Prop := Claim7.holds Tryd.pinned (.plain (OpenSpec.ofChange mtreeRangesSpec)) mtreeRangesCard

/-- THE TIED CARD OF 'notarylaw10.MtreeEmpty'. -/
def mtreeEmptyCard : Claim7 := { stood := { row := mtreeEmptyRow, standIns := [], harness := (true, "ce469fd9d8421738f0b44adb2896c37bb9cde04da456af20c96014462d0638b0"), looks := false }, kinds := [], alts := [], laidByText := true, laidKinds := [.data, .data, .data], laidTests := true, laidLooks := .later }
def MtreeEmptyCardSaid : Prop := Claim7.holds Tryd.pinned (.plain (OpenSpec.ofChange mtreeEmptySpec)) mtreeEmptyCard

/-- THE TIED CARD OF 'notarylaw10.MtreeKeeps'. -/
def mtreeKeepsCard : Claim7 := { stood := { row := mtreeKeepsRow, standIns := [], harness := (true, "ce469fd9d8421738f0b44adb2896c37bb9cde04da456af20c96014462d0638b0"), looks := false }, kinds := [], alts := [], laidByText := true, laidKinds := [.data, .data, .data], laidTests := true, laidLooks := .later }
def MtreeKeepsCardSaid : Prop := Claim7.holds Tryd.pinned (.plain (OpenSpec.ofChange mtreeKeepsSpec)) mtreeKeepsCard

/-- THE TIED CARD OF 'notarylaw10.MtreeSplits'. -/
def mtreeSplitsCard : Claim7 := { stood := { row := mtreeSplitsRow, standIns := [], harness := (true, "ce469fd9d8421738f0b44adb2896c37bb9cde04da456af20c96014462d0638b0"), looks := false }, kinds := [], alts := [], laidByText := true, laidKinds := [.data, .data, .data], laidTests := true, laidLooks := .later }
def MtreeSplitsCardSaid : Prop := Claim7.holds Tryd.pinned (.plain (OpenSpec.ofChange mtreeSplitsSpec)) mtreeSplitsCard

/-- THE TIED CARD OF 'notarylaw10.MtreeAnyhow'. -/
def mtreeAnyhowCard : Claim7 := { stood := { row := mtreeAnyhowRow, standIns := [], harness := (true, "ce469fd9d8421738f0b44adb2896c37bb9cde04da456af20c96014462d0638b0"), looks := false }, kinds := [], alts := [], laidByText := true, laidKinds := [.data, .data, .data], laidTests := true, laidLooks := .later }
def MtreeAnyhowCardSaid : Prop := Claim7.holds Tryd.pinned (.plain (OpenSpec.ofChange mtreeAnyhowSpec)) mtreeAnyhowCard

/-- THE SECOND FORM's CARD OF 'notarylaw10.MtreeGrows'. -/
def mtreeGrowsUptoCard : Claim7 := { stood := { row := mtreeGrowsUptoRow, standIns := [], harness := (true, "ce469fd9d8421738f0b44adb2896c37bb9cde04da456af20c96014462d0638b0"), looks := false }, kinds := [], alts := [], laidByText := true, laidKinds := [.data, .data, .data], laidTests := true, laidLooks := .later }
def MtreeGrowsUptoCardSaid : Prop := Claim7.holds Tryd.pinned (.plain (OpenSpec.upto mtreeGrowsSpec)) mtreeGrowsUptoCard

/-- THE SECOND FORM's CARD OF 'notarylaw10.MtreeRanges'. -/
def mtreeRangesUptoCard : Claim7 := { stood := { row := mtreeRangesUptoRow, standIns := [], harness := (true, "ce469fd9d8421738f0b44adb2896c37bb9cde04da456af20c96014462d0638b0"), looks := false }, kinds := [], alts := [], laidByText := true, laidKinds := [.data, .data, .data], laidTests := true, laidLooks := .later }
def MtreeRangesUptoCardSaid : Prop := Claim7.holds Tryd.pinned (.plain (OpenSpec.upto mtreeRangesSpec)) mtreeRangesUptoCard

/-- THE SECOND FORM's CARD OF 'notarylaw10.MtreeEmpty'. -/
def mtreeEmptyUptoCard : Claim7 := { stood := { row := mtreeEmptyUptoRow, standIns := [], harness := (true, "ce469fd9d8421738f0b44adb2896c37bb9cde04da456af20c96014462d0638b0"), looks := false }, kinds := [], alts := [], laidByText := true, laidKinds := [.data, .data, .data], laidTests := true, laidLooks := .later }
def MtreeEmptyUptoCardSaid : Prop := Claim7.holds Tryd.pinned (.plain (OpenSpec.upto mtreeEmptySpec)) mtreeEmptyUptoCard

/-- THE SECOND FORM's CARD OF 'notarylaw10.MtreeKeeps'. -/
def mtreeKeepsUptoCard : Claim7 := { stood := { row := mtreeKeepsUptoRow, standIns := [], harness := (true, "ce469fd9d8421738f0b44adb2896c37bb9cde04da456af20c96014462d0638b0"), looks := false }, kinds := [], alts := [], laidByText := true, laidKinds := [.data, .data, .data], laidTests := true, laidLooks := .later }
def MtreeKeepsUptoCardSaid : Prop := Claim7.holds Tryd.pinned (.plain (OpenSpec.upto mtreeKeepsSpec)) mtreeKeepsUptoCard

/-- THE SECOND FORM's CARD OF 'notarylaw10.MtreeSplits'. -/
def mtreeSplitsUptoCard : Claim7 := { stood := { row := mtreeSplitsUptoRow, standIns := [], harness := (true, "ce469fd9d8421738f0b44adb2896c37bb9cde04da456af20c96014462d0638b0"), looks := false }, kinds := [], alts := [], laidByText := true, laidKinds := [.data, .data, .data], laidTests := true, laidLooks := .later }
def MtreeSplitsUptoCardSaid : Prop := Claim7.holds Tryd.pinned (.plain (OpenSpec.upto mtreeSplitsSpec)) mtreeSplitsUptoCard

/-- THE SECOND FORM's CARD OF 'notarylaw10.MtreeAnyhow'. -/
def mtreeAnyhowUptoCard : Claim7 := { stood := { row := mtreeAnyhowUptoRow, standIns := [], harness := (true, "ce469fd9d8421738f0b44adb2896c37bb9cde04da456af20c96014462d0638b0"), looks := false }, kinds := [], alts := [], laidByText := true, laidKinds := [.data, .data, .data], laidTests := true, laidLooks := .later }
def MtreeAnyhowUptoCardSaid : Prop := Claim7.holds Tryd.pinned (.plain (OpenSpec.upto mtreeAnyhowSpec)) mtreeAnyhowUptoCard
end Rows
end Go.Proofs.YtcijeplafknokaaDoor
