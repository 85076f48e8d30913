import Derived.Test.YtclgblilgpfllabNPair
namespace Go.Proofs.Ytclgblilgpfllab
open Go.RowKit Go.BigFrame
set_option linter.unusedVariables false
set_option linter.unusedSimpArgs false

theorem wid_of {z : Int} {ds : List (List Nat)} (h : formedE z ds = 0) : ∃ k : Nat, z = k ∧ 1 ≤ k ∧ k ≤ 32 := by
  have hw : widthB z = true := by
    unfold formedE at h
    cases hw : widthB z with
    | false => rw [hw] at h; simp at h
    | true => rfl
  simp [widthB] at hw
  exact ⟨z.toNat, by omega, by omega, by omega⟩

end Go.Proofs.Ytclgblilgpfllab
