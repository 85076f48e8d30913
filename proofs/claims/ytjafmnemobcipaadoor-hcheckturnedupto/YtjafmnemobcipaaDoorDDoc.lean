import Derived.Test.YtjafmnemobcipaaDoorDAw
import Derived.Test.YtjafmnemobcipaaDoorRSum
namespace Go.Proofs.YtjafmnemobcipaaDoor
open Go.RowKit Go.BigFrame
set_option linter.unusedVariables false
set_option linter.unusedSimpArgs false

theorem cutL_iff (k : Nat) (d : List Nat) (hd : d.length = 32) (hk : k ≤ 32) : cutL k d = d ↔ ∀ i, k ≤ i → i < 32 → d.getD i 0 = 0 := by
  constructor
  · intro h i h1 h2
    rw [← h]
    unfold cutL
    rw [List.getD_eq_getElem?_getD, List.getElem?_append_right (by simp; omega), List.getElem?_replicate]
    split <;> rfl
  · intro h
    refine list_ext_getD (by rw [cutL_len k d hk hd, hd]) fun i h1 => ?_
    rw [cutL_len k d hk hd] at h1
    unfold cutL
    rcases Nat.lt_or_ge i k with g | g
    · rw [List.getD_eq_getElem?_getD, List.getElem?_append_left (by simp; omega), List.getElem?_take, if_pos g, List.getD_eq_getElem?_getD]
    · rw [h i g h1, List.getD_eq_getElem?_getD, List.getElem?_append_right (by simp; omega), List.getElem?_replicate]
      split <;> rfl

end Go.Proofs.YtjafmnemobcipaaDoor
