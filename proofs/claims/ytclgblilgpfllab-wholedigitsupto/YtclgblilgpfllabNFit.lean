import Derived.Test.YtclgblilgpfllabNAw
namespace Go.Proofs.Ytclgblilgpfllab
open Go.RowKit Go.BigFrame
set_option linter.unusedVariables false
set_option linter.unusedSimpArgs false

def fitB (z : Int) (a b : List Nat) : Bool := formB z a && formB z b
theorem fit_formed {z : Int} {a b : List Nat} (h : fitB z a b = true) : formedE z [a, b] = 0 := by
  unfold fitB at h
  simp only [Bool.and_eq_true] at h
  have hw : widthB z = true := by have := h.1; unfold formB at this; simp only [Bool.and_eq_true] at this; exact this.1
  unfold formedE
  rw [if_neg (by rw [hw]; simp), if_pos (by simp [h.1, h.2])]

end Go.Proofs.Ytclgblilgpfllab
