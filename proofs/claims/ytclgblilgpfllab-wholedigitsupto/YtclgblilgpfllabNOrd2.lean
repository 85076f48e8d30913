import Derived.Test.YtclgblilgpfllabNOrd
import Derived.Test.YtclgblilgpfllabNFit
namespace Go.Proofs.Ytclgblilgpfllab
open Go.RowKit Go.BigFrame
set_option linter.unusedVariables false
set_option linter.unusedSimpArgs false

theorem ordL_anti : ∀ a b : List Nat, ordL a b = - ordL b a
  | [], [] => rfl
  | [], _ :: _ => rfl
  | _ :: _, [] => rfl
  | x :: a, y :: b => by
    unfold ordL
    by_cases h1 : x < y
    · rw [if_pos h1, if_neg (by omega), if_pos h1]
    · by_cases h2 : y < x
      · rw [if_neg h1, if_pos h2, if_pos h2]; rfl
      · rw [if_neg h1, if_neg h2, if_neg h2, if_neg h1]; exact ordL_anti a b
theorem ordL_range : ∀ a b : List Nat, ordL a b = -1 ∨ ordL a b = 0 ∨ ordL a b = 1
  | [], [] => by simp [ordL]
  | [], _ :: _ => by simp [ordL]
  | _ :: _, [] => by simp [ordL]
  | x :: a, y :: b => by
    unfold ordL
    split
    · simp
    · split
      · simp
      · exact ordL_range a b
theorem first_diff {a b : List Nat} (ha : Dg a) (hb : Dg b) {k i : Nat} (hk : k ≤ 32) (hi : i < k) (hp : ∀ j, j < i → a.getD j 0 = b.getD j 0) (hd : a.getD i 0 ≠ b.getD i 0) :
    comL a b (2 * k) 0 / 2 = i ∧ (a.getD i 0 < b.getD i 0 ↔ ordL a b = -1) ∧ (¬ a.getD i 0 < b.getD i 0 → ordL a b = 1) := by
  obtain ⟨_, h2, h3, h4⟩ := comL_spec a b (2 * k) 0
  obtain ⟨c, hc⟩ : ∃ c, comL a b (2 * k) 0 = c := ⟨_, rfl⟩
  rw [hc] at h2 h3 h4 ⊢
  constructor
  · rcases Nat.lt_or_ge c (2 * i) with g | g
    · exfalso
      have h5 := h4 (by omega)
      have h6 := hp (c / 2) (by omega)
      apply h5
      unfold dgt
      rw [h6]
    · rcases Nat.lt_or_ge c (2 * i + 2) with g2 | g2
      · omega
      · exfalso
        apply hd
        rw [byte_dgt a i, byte_dgt b i, h3 (2 * i) (by omega) (by omega), h3 (2 * i + 1) (by omega) (by omega)]
  · rw [ordL_at a b i (by rw [ha.1, hb.1]) (by rw [ha.1]; omega) hp hd]
    by_cases g : a.getD i 0 < b.getD i 0
    · rw [if_pos g]; exact ⟨⟨fun _ => rfl, fun _ => g⟩, fun h => absurd g h⟩
    · rw [if_neg g]; exact ⟨⟨fun h => absurd h g, fun h => by omega⟩, fun _ => rfl⟩
theorem formed_swap {z : Int} {a b : List Nat} (h : formedE z [a, b] = 0) : formedE z [b, a] = 0 := by
  have hw : widthB z = true := by
    unfold formedE at h
    cases hw : widthB z with
    | false => rw [hw] at h; simp at h
    | true => rfl
  obtain ⟨fa, fb⟩ := formed_two h
  unfold formedE
  rw [if_neg (by rw [hw]; simp), if_pos (by simp [fa, fb])]
end Go.Proofs.Ytclgblilgpfllab
