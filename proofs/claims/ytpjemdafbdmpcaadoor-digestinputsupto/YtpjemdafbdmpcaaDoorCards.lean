/-
  DERIVED. GIVEN WITH THE SEED: THE CARDS: each row of YtpjemdafbdmpcaaDoorRows.lean that lists a variable, with what it lists TIED to the program's text (the seventh form; the later family's looks); each row that meets fmt, with fmt's text TOLD by the authors' own Lean function (tested against real Go, not proved from fmt's source: count such statements apart). THE CARD IS WHAT COUNTS. Prove the row's statement (the work); the ties are given (YtpjemdafbdmpcaaDoorTie.lean); close each card by the builder's one call (the guide's Derived/Test/ToyasCard.lean, 'card_holds'). Laid BY PROGRAM, IN A SANDBOX (cutbox-door.mjs). By AI agents, Wed Nov 11 2026. No macro, syntax, notation, axiom, sorry.
-/
import Derived.Test.YtpjemdafbdmpcaaDoorRows
import GoSem.ClaimSeven
namespace Go.Proofs.YtpjemdafbdmpcaaDoor
namespace Rows

/-- THE TIED CARD OF 'notarylaw03.DigestForms'. -/
def digestFormsCard : Claim7 := { stood := { row := digestFormsRow, standIns := [], harness := (true, "fa88fe99c4f4b1dbfc0b68d26b994aeb079b6dbb9e4f6affe1af58177d432551"), looks := false }, kinds := [], alts := [], laidByText := true, laidKinds := [.data, .data], laidTests := true, laidLooks := .later }
def DigestFormsCardSaid : Prop := Claim7.holds Tryd.pinned (.plain (OpenSpec.ofChange digestFormsSpec)) digestFormsCard

/-- THE TIED CARD OF 'notarylaw03.DigestSums'. -/
def digestSumsCard : Claim7 := { stood := { row := digestSumsRow, standIns := [], harness := (true, "fa88fe99c4f4b1dbfc0b68d26b994aeb079b6dbb9e4f6affe1af58177d432551"), looks := false }, kinds := [], alts := [], laidByText := true, laidKinds := [.data, .data], laidTests := true, laidLooks := .later }
def DigestSumsCardSaid : Prop := Claim7.holds Tryd.pinned (.plain (OpenSpec.ofChange digestSumsSpec)) digestSumsCard

/-- THE TIED CARD OF 'notarylaw03.DigestInputs'. -/
def digestInputsCard : Claim7 := { stood := { row := digestInputsRow, standIns := [], harness := (true, "fa88fe99c4f4b1dbfc0b68d26b994aeb079b6dbb9e4f6affe1af58177d432551"), looks := false }, kinds := [], alts := [], laidByText := true, laidKinds := [.data, .data], laidTests := true, laidLooks := .later }
def DigestInputsCardSaid : Prop := Claim7.holds Tryd.pinned (.plain (OpenSpec.ofChange digestInputsSpec)) digestInputsCard

/-- THE TIED CARD OF 'notarylaw03.DigestDigests'. -/
def digestDigestsCard : Claim7 := { stood := { row := digestDigestsRow, standIns := [], harness := (true, "fa88fe99c4f4b1dbfc0b68d26b994aeb079b6dbb9e4f6affe1af58177d432551"), looks := false }, kinds := [], alts := [], laidByText := true, laidKinds := [.data, .data], laidTests := true, laidLooks := .later }
def DigestDigestsCardSaid : Prop := Claim7.holds Tryd.pinned (.plain (OpenSpec.ofChange digestDigestsSpec)) digestDigestsCard

/-- THE TIED CARD OF 'notarylaw03.DigestKeeps'. -/
def digestKeepsCard : Claim7 := { stood := { row := digestKeepsRow, standIns := [], harness := (true, "fa88fe99c4f4b1dbfc0b68d26b994aeb079b6dbb9e4f6affe1af58177d432551"), looks := false }, kinds := [], alts := [], laidByText := true, laidKinds := [.data, .data], laidTests := true, laidLooks := .later }
def DigestKeepsCardSaid : Prop := Claim7.holds Tryd.pinned (.plain (OpenSpec.ofChange digestKeepsSpec)) digestKeepsCard

/-- THE TIED CARD OF 'notarylaw03.DigestPieces'. -/
def digestPiecesCard : Claim7 := { stood := { row := digestPiecesRow, standIns := [], harness := (true, "fa88fe99c4f4b1dbfc0b68d26b994aeb079b6dbb9e4f6affe1af58177d432551"), looks := false }, kinds := [], alts := [], laidByText := true, laidKinds := [.data, .data], laidTests := true, laidLooks := .later }
def DigestPiecesCardSaid : Prop := Claim7.holds Tryd.pinned (.plain (OpenSpec.ofChange digestPiecesSpec)) digestPiecesCard

/-- THE SECOND FORM's CARD OF 'notarylaw03.DigestForms'. -/
def digestFormsUptoCard : Claim7 := { stood := { row := digestFormsUptoRow, standIns := [], harness := (true, "fa88fe99c4f4b1dbfc0b68d26b994aeb079b6dbb9e4f6affe1af58177d432551"), looks := false }, kinds := [], alts := [], laidByText := true, laidKinds := [.data, .data], laidTests := true, laidLooks := .later }
def DigestFormsUptoCardSaid : Prop := Claim7.holds Tryd.pinned (.plain (OpenSpec.upto digestFormsSpec)) digestFormsUptoCard

/-- THE SECOND FORM's CARD OF 'notarylaw03.DigestSums'. -/
def digestSumsUptoCard : Claim7 := { stood := { row := digestSumsUptoRow, standIns := [], harness := (true, "fa88fe99c4f4b1dbfc0b68d26b994aeb079b6dbb9e4f6affe1af58177d432551"), looks := false }, kinds := [], alts := [], laidByText := true, laidKinds := [.data, .data], laidTests := true, laidLooks := .later }
def DigestSumsUptoCardSaid : Prop := Claim7.holds Tryd.pinned (.plain (OpenSpec.upto digestSumsSpec)) digestSumsUptoCard

/-- THE SECOND FORM's CARD OF 'notarylaw03.DigestInputs'. -/
def digestInputsUptoCard : Claim7 := { stood := { row := digestInputsUptoRow, standIns := [], harness := (true, "fa88fe99c4f4b1dbfc0b68d26b994aeb079b6dbb9e4f6affe1af58177d432551"), looks := false }, kinds := [], alts := [], laidByText := true, laidKinds := [.data, .data], laidTests := true, laidLooks := .later }
def DigestInputsUptoCardSaid : Prop := Claim7.holds Tryd.pinned (.plain (OpenSpec.upto digestInputsSpec)) digestInputsUptoCard

/-- THE SECOND FORM's CARD OF 'notarylaw03.DigestDigests'. -/
def digestDigestsUptoCard : Claim7 := { stood := { row := digestDigestsUptoRow, standIns := [], harness := (true, "fa88fe99c4f4b1dbfc0b68d26b994aeb079b6dbb9e4f6affe1af58177d432551"), looks := false }, kinds := [], alts := [], laidByText := true, laidKinds := [.data, .data], laidTests := true, laidLooks := .later }
def DigestDigestsUptoCardSaid : Prop := Claim7.holds Tryd.pinned (.plain (OpenSpec.upto digestDigestsSpec)) digestDigestsUptoCard

/-- THE SECOND FORM's CARD OF 'notarylaw03.DigestKeeps'. -/
def digestKeepsUptoCard : Claim7 := { stood := { row := digestKeepsUptoRow, standIns := [], harness := (true, "fa88fe99c4f4b1dbfc0b68d26b994aeb079b6dbb9e4f6affe1af58177d432551"), looks := false }, kinds := [], alts := [], laidByText := true, laidKinds := [.data, .data], laidTests := true, laidLooks := .later }
def DigestKeepsUptoCardSaid : Prop := Claim7.holds Tryd.pinned (.plain (OpenSpec.upto digestKeepsSpec)) digestKeepsUptoCard

/-- THE SECOND FORM's CARD OF 'notarylaw03.DigestPieces'. -/
def digestPiecesUptoCard : Claim7 := { stood := { row := digestPiecesUptoRow, standIns := [], harness := (true, "fa88fe99c4f4b1dbfc0b68d26b994aeb079b6dbb9e4f6affe1af58177d432551"), looks := false }, kinds := [], alts := [], laidByText := true, laidKinds := [.data, .data], laidTests := true, laidLooks := .later }
def DigestPiecesUptoCardSaid : Prop := Claim7.holds Tryd.pinned (.plain (OpenSpec.upto digestPiecesSpec)) digestPiecesUptoCard
end Rows
end Go.Proofs.YtpjemdafbdmpcaaDoor
