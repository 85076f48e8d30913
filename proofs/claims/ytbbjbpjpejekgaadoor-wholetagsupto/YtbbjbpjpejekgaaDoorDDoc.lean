import Derived.Test.YtbbjbpjpejekgaaDoorDAw
import Derived.Test.YtbbjbpjpejekgaaDoorRSum
namespace Go.Proofs.YtbbjbpjpejekgaaDoor
open Go.RowKit Go.BigFrame
set_option linter.unusedVariables false
set_option linter.unusedSimpArgs false

set_option maxRecDepth 100000 in
set_option maxHeartbeats 1000000 in
theorem rwidth_any (z : Int) (w : World) (hz : -9223372036854775808 ≤ z ∧ z ≤ 9223372036854775807) :
    Calls Tryd.prog 46 #[.int .i64 z] w fun e w' => e = .returned (.bool (widthB z)) ∧ w' = w := by
  by_cases h1 : 1 ≤ z
  · by_cases h2 : z ≤ 32
    · have hw : widthB z = true := by simp [widthB, h1, h2]
      rw [hw]
      clear hw
      go_enter Tryd.func46, Tryd.ntmps46
      go_wp2
      go_ret
      exact ⟨rfl, rfl⟩
    · have hw : widthB z = false := by simp [widthB, h2]
      rw [hw]
      clear hw
      go_enter Tryd.func46, Tryd.ntmps46
      go_wp2
      go_ret
      exact ⟨rfl, rfl⟩
  · have hw : widthB z = false := by simp [widthB, h1]
    rw [hw]
    clear hw
    go_enter Tryd.func46, Tryd.ntmps46
    go_wp2
    go_ret
    exact ⟨rfl, rfl⟩

theorem cutL_iff (k : Nat) (d : List Nat) (hd : d.length = 32) (hk : k ≤ 32) : cutL k d = d ↔ ∀ i, k ≤ i → i < 32 → d.getD i 0 = 0 := by
  constructor
  · intro h i h1 h2
    rw [← h]
    unfold cutL
    rw [List.getD_eq_getElem?_getD, List.getElem?_append_right (by simp; omega), List.getElem?_replicate]
    split <;> rfl
  · intro h
    refine list_ext_getD (by rw [cutL_len k d hk hd, hd]) fun i h1 => ?_
    rw [cutL_len k d hk hd] at h1
    unfold cutL
    rcases Nat.lt_or_ge i k with g | g
    · rw [List.getD_eq_getElem?_getD, List.getElem?_append_left (by simp; omega), List.getElem?_take, if_pos g, List.getD_eq_getElem?_getD]
    · rw [h i g h1, List.getD_eq_getElem?_getD, List.getElem?_append_right (by simp; omega), List.getElem?_replicate]
      split <;> rfl

set_option maxRecDepth 100000 in
set_option maxHeartbeats 1000000 in
theorem docForm_any (z : Int) (d : List Nat) (w : World) (hz : -9223372036854775808 ≤ z ∧ z ≤ 9223372036854775807) (hd : d.length = 32) (hb : ∀ x ∈ d, x < 256) :
    Calls Tryd.prog 71 #[.int .i64 z, .agg (brow d)] w fun e w' => e = .returned (.bool (formB z d)) ∧ Kept [] w w' := by
  have HB := hide hb
  clear hb
  go_enter Tryd.func71, Tryd.ntmps71
  go_wp2_with fail
  refine Calls.mono (rwidth_any z _ hz) ?_
  rintro e w1 ⟨rfl, rfl⟩
  cases hw : widthB z with
  | false =>
    have HF := hide (by simp [formB, hw] : formB z d = false)
    clear hw
    go_wp2
    go_ret
    exact ⟨by rw [unhide HF]; rfl, (Kept.refl [] w).alloc _⟩
  | true =>
    have hz2 : 1 ≤ z ∧ z ≤ 32 := by simpa [widthB] using hw
    have HF := hide (by unfold formB; rw [hw, Bool.true_and] : formB z d = decide (cutL z.toNat d = d))
    clear hw
    obtain ⟨k, rfl⟩ : ∃ k : Nat, z = k := ⟨z.toNat, by omega⟩
    rw [Int.toNat_natCast] at HF
    have HI := hide (cutL_iff k d hd (by omega))
    have HD := hide (heap_alloc_new w (.cells (brow d) 26))
    have HK := hide ((Kept.refl [] w).alloc (.cells (brow d) 26))
    obtain ⟨W, hW⟩ : ∃ W, w.alloc (.cells (brow d) 26) = W := ⟨_, rfl⟩
    rw [hW] at HD HK ⊢
    clear hW
    have hk32 : (k : Int) ≤ 32 := hz2.2
    go_wp2_with fail
    go_loopw [5] (fun t5 wr => ∃ (i n : Nat), k ≤ i ∧ i ≤ 32 ∧ t5 = .int .i64 i ∧ Hid (∀ j, k ≤ j → j < i → d.getD j 0 = 0) ∧ wr = W.drewN n) (fun t _ => 32 - (intOf t).toNat)
    case atStart => exact ⟨k, 0, Nat.le_refl _, by omega, rfl, hide (fun j h1 h2 => by omega), rfl⟩
    case round =>
      obtain ⟨i, n, hki, hi, rfl, HA, rfl⟩ := hrel
      by_cases hlt : i < 32
      · have hlt' : (i : Int) < 32 := by omega
        have ci : W.cell? ⟨w.heap.size, i, none⟩ = some (u8 (d.getD i 0)) := brow_cell (unhide HD) i (by omega)
        obtain ⟨x, hx⟩ : ∃ x, d.getD i 0 = x := ⟨_, rfl⟩
        rw [hx] at ci
        by_cases hx0 : x = 0
        · subst hx0
          have HN := hide (fun j h1 h2 => by
            rcases Nat.lt_or_ge j i with g | g
            · exact unhide HA j h1 g
            · rw [show j = i by omega]; exact hx : ∀ j, k ≤ j → j < i + 1 → d.getD j 0 = 0)
          clear hx
          go_wp2
          go_roundw
          case rel => exact ⟨i + 1, _, by omega, by omega, by go_num, HN, rfl⟩
          case measure => simp [intOf]; omega
        · have hx0' : ((x : Int) != 0) = true := by rw [bne_iff_ne]; omega
          have HN := hide (by
            rw [unhide HF, decide_eq_false_iff_not, unhide HI]
            intro h
            exact hx0 (by rw [← hx]; exact h i hki hlt) : formB k d = false)
          clear hx hx0
          go_wp2
          go_ret
          exact ⟨by rw [unhide HN]; rfl, (unhide HK).drewN _⟩
      · have hlt' : ¬ (i : Int) < 32 := by omega
        have HN := hide (by
          rw [unhide HF, decide_eq_true_iff, unhide HI]
          intro j h1 h2
          exact unhide HA j h1 (by omega) : formB k d = true)
        go_wp2
        go_ret
        exact ⟨by rw [unhide HN]; rfl, (unhide HK).drewN _⟩
end Go.Proofs.YtbbjbpjpejekgaaDoor
