import Derived.Test.YthampopakcdgnaaJoin
namespace Go.Proofs.Ythampopakcdgnaa
open Go.RowKit
set_option linter.unusedVariables false
set_option linter.unusedSimpArgs false
attribute [local go_sem ↓] Go.wp_at_zero Go.wp_at_succ

/-- What 'Wide' has laid so far. -/
def wideCells (v n j : Nat) : Array Value := (zeros j ++ (wide v (n - j)).map u8).toArray
theorem wideCells_size (v n j : Nat) (h : j ≤ n) : (wideCells v n j).size = n := by simp [wideCells, zeros, wide_len]; omega
theorem wideCells_set (v n m : Nat) (h : m < n) : (wideCells v n (m + 1)).setIfInBounds m (u8 (v / 256 ^ (n - (m + 1)) % 256)) = wideCells v n m := by
  apply Array.toList_inj.1
  rw [Array.toList_setIfInBounds]
  simp only [wideCells]
  have e : n - m = (n - (m + 1)) + 1 := by omega
  rw [e]
  simp only [wide, List.map_cons]
  have hz : zeros (m + 1) = zeros m ++ [.int .u8 0] := by simp [zeros, List.replicate_succ']
  rw [hz]
  have hl : (zeros m).length = m := by simp [zeros]
  simp [List.set_append, hl]

end Go.Proofs.Ythampopakcdgnaa
