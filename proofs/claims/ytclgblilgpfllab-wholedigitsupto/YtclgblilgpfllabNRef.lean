import Derived.Test.YtclgblilgpfllabNCmp
import Derived.Test.YtclgblilgpfllabNInt
namespace Go.Proofs.Ytclgblilgpfllab
open Go.RowKit Go.BigFrame
set_option linter.unusedVariables false
set_option linter.unusedSimpArgs false

/-- The digits of the first k bytes. -/
def digsL (d : List Nat) : Nat → List Nat
  | 0 => []
  | k + 1 => digsL d k ++ [d.getD k 0 / 16, d.getD k 0 % 16]
theorem digsL_succ (d : List Nat) (k : Nat) : digsL d (k + 1) = digsL d k ++ [d.getD k 0 / 16, d.getD k 0 % 16] := rfl
theorem digsL_len (d : List Nat) : ∀ k, (digsL d k).length = 2 * k
  | 0 => rfl
  | k + 1 => by unfold digsL; rw [List.length_append, digsL_len d k]; simp; omega
theorem digsL_get (d : List Nat) : ∀ k i, i < 2 * k → (digsL d k).getD i 0 = dgt d i
  | 0, i, h => by omega
  | k + 1, i, h => by
    unfold digsL
    rw [List.getD_eq_getElem?_getD]
    rcases Nat.lt_or_ge i (2 * k) with g | g
    · rw [List.getElem?_append_left (by rw [digsL_len]; exact g), ← List.getD_eq_getElem?_getD, digsL_get d k i g]
    · rw [List.getElem?_append_right (by rw [digsL_len]; exact g), digsL_len]
      unfold dgt
      rcases (by omega : i = 2 * k ∨ i = 2 * k + 1) with rfl | rfl
      · rw [Nat.sub_self, if_pos (by omega), show 2 * k / 2 = k by omega]; rfl
      · rw [show 2 * k + 1 - 2 * k = 1 by omega, if_neg (by omega), show (2 * k + 1) / 2 = k by omega]; rfl

end Go.Proofs.Ytclgblilgpfllab
