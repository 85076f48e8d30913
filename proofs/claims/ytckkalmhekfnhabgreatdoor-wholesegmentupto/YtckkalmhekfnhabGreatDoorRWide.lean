import Derived.Test.YtckkalmhekfnhabGreatDoorJoin
namespace Go.Proofs.YtckkalmhekfnhabGreatDoor
open Go.RowKit
set_option linter.unusedVariables false
set_option linter.unusedSimpArgs false
attribute [local go_sem ↓] Go.wp_at_zero Go.wp_at_succ

/-- What 'Wide' has laid so far. -/
def wideCells (v n j : Nat) : Array Value := (zeros j ++ (wide v (n - j)).map u8).toArray
theorem wideCells_size (v n j : Nat) (h : j ≤ n) : (wideCells v n j).size = n := by simp [wideCells, zeros, wide_len]; omega
theorem wideCells_set (v n m : Nat) (h : m < n) : (wideCells v n (m + 1)).setIfInBounds m (u8 (v / 256 ^ (n - (m + 1)) % 256)) = wideCells v n m := by
  apply Array.toList_inj.1
  rw [Array.toList_setIfInBounds]
  simp only [wideCells]
  have e : n - m = (n - (m + 1)) + 1 := by omega
  rw [e]
  simp only [wide, List.map_cons]
  have hz : zeros (m + 1) = zeros m ++ [.int .u8 0] := by simp [zeros, List.replicate_succ']
  rw [hz]
  have hl : (zeros m).length = m := by simp [zeros]
  simp [List.set_append, hl]

set_option maxRecDepth 100000 in
set_option maxHeartbeats 1000000 in
theorem refWide_any (v n : Nat) (w : World) (hv : v < 18446744073709551616) (hn : n ≤ 8) :
    Calls Tryz.prog 119 #[.int .u64 v, .int .i64 n] w fun e w' => e = .returned (.slice (some ⟨w.heap.size, 0, none⟩) n n) ∧ Kept [] w w' ∧ w'.heap[w.heap.size]? = some (.cells ((wide v n).map u8).toArray 5 (0, 0)) := by
  have hmk := run_make_row' (P := Tryz.prog) 29 5 (.int .u8 0) 1 Tryz.underlying29 Tryz.info5 rfl .i64 .i64 n (by omega) (by omega)
  simp only [madeZeros] at hmk
  have h0 : (zeros n).toArray = wideCells v n n := by simp [wideCells, wide]
  rw [h0] at hmk
  clear h0
  go_enter Tryz.func119, Tryz.ntmps119
  go_wp2_with fail
  go_loopw [0, 6] (fun t0 t6 wr => ∃ (j y : Nat), j ≤ n ∧ y ≤ v ∧ t6 = .int .i64 ((j : Int) - 1) ∧ t0 = .int .u64 y ∧ Hid (y = v / 256 ^ (n - j)) ∧ wr = w.alloc (.cells (wideCells v n j) 5)) (fun _ t _ => (intOf t + 1).toNat)
  case atStart => exact ⟨n, v, Nat.le_refl _, Nat.le_refl _, rfl, rfl, hide (by simp), rfl⟩
  case round =>
    obtain ⟨j, y, hj, hyv, rfl, rfl, Hy, rfl⟩ := hrel
    by_cases hj0 : j = 0
    · subst hj0
      go_wp2
      go_ret
      refine ⟨rfl, (Kept.refl [] w).alloc _, ?_⟩
      rw [heap_alloc_new]; simp [wideCells, zeros]
    · obtain ⟨m, rfl⟩ : ∃ m, j = m + 1 := ⟨j - 1, by omega⟩
      have e1 : (((m + 1 : Nat) : Int) - 1) = (m : Int) := by omega
      rw [e1]
      have hm0 : (0 : Int) ≤ m := by omega
      have hmn : (m : Int) < n := by omega
      have hsz := wideCells_size v n (m + 1) (by omega)
      have hset := wideCells_set v n m (by omega)
      rw [← unhide Hy] at hset
      have hcell : ∃ c, (wideCells v n (m + 1))[m]? = some c := ⟨_, Array.getElem?_eq_getElem (by rw [hsz]; omega)⟩
      obtain ⟨c, hc⟩ := hcell
      have hset' : (wideCells v n (m + 1)).setIfInBounds m (.int .u8 ((y : Int) % 256)) = wideCells v n m := by rw [← hset]; simp [u8]
      clear hset e1
      generalize hA : wideCells v n (m + 1) = A at *
      generalize hB : wideCells v n m = B at *
      have HB := hide hB
      clear hA hB hsz
      go_wp2
      go_roundw
      case rel => exact ⟨m, y / 256, by omega, by omega, rfl, by simp, hide (by rw [unhide Hy, Nat.div_div_eq_div_mul, ← Nat.pow_succ]; congr 2; omega), by rw [unhide HB]⟩
      case measure => simp [intOf]
end Go.Proofs.YtckkalmhekfnhabGreatDoor
