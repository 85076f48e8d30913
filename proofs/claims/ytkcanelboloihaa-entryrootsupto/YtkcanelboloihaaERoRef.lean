import Derived.Test.YtkcanelboloihaaEMathR
namespace Go.Proofs.Ytkcanelboloihaa
open Go.RowKit Go.BigFrame
set_option linter.unusedVariables false
set_option linter.unusedSimpArgs false

set_option maxRecDepth 100000 in
set_option maxHeartbeats 1000000 in
theorem refWide5_any (z : Int) (w : World) (hz : -9223372036854775808 ≤ z ∧ z ≤ 9223372036854775807) :
    Calls Try.prog 47 #[.int .i64 z] w fun e w' => e = .returned (.bool (widthB z)) ∧ w' = w := by
  by_cases h1 : 1 ≤ z
  · by_cases h2 : z ≤ 32
    · have hw : widthB z = true := by simp [widthB, h1, h2]
      rw [hw]
      clear hw
      go_enter Try.func47, Try.ntmps47
      go_wp2
      go_ret
      exact ⟨rfl, rfl⟩
    · have hw : widthB z = false := by simp [widthB, h2]
      rw [hw]
      clear hw
      go_enter Try.func47, Try.ntmps47
      go_wp2
      go_ret
      exact ⟨rfl, rfl⟩
  · have hw : widthB z = false := by simp [widthB, h1]
    rw [hw]
    clear hw
    go_enter Try.func47, Try.ntmps47
    go_wp2
    go_ret
    exact ⟨rfl, rfl⟩


theorem form_iff {k : Nat} {d : List Nat} (hk : 1 ≤ k ∧ k ≤ 32) (hd : d.length = 32) : formB k d = true ↔ ∀ i, k ≤ i → i < 32 → d.getD i 0 = 0 := by
  have hw : widthB k = true := by unfold widthB; rw [decide_eq_true_eq]; omega
  unfold formB
  rw [hw, Bool.true_and, Int.toNat_natCast, decide_eq_true_eq]
  unfold cutL
  refine Iff.symm ⟨?_, ?_⟩
  · intro h
    refine List.ext_getElem (by simp [hd]; omega) fun i h1 h2 => ?_
    rw [List.getElem_append]
    split
    · rw [List.getElem_take]
    · rename_i h3
      rw [List.length_take, hd, Nat.min_eq_left hk.2] at h3
      have h9 := h i (by omega) (by omega)
      rw [List.getD_eq_getElem?_getD, List.getElem?_eq_getElem h2] at h9
      simp only [Option.getD_some] at h9
      rw [h9, List.getElem_replicate]
  · intro h i h1 h2
    rw [← h, List.getD_eq_getElem?_getD, List.getElem?_append_right (by rw [List.length_take]; omega), List.length_take, hd, Nat.min_eq_left hk.2, List.getElem?_replicate]
    split <;> rfl

set_option maxRecDepth 100000 in
set_option maxHeartbeats 1000000 in
theorem formed5_any (k : Nat) (d : List Nat) (w : World) (hk : 1 ≤ k ∧ k ≤ 32) (hd : d.length = 32) (hb : ∀ x ∈ d, x < 256) :
    Calls Try.prog 48 #[.int .i64 k, .agg (brow d)] w fun e w' => e = .returned (.bool (formB k d)) ∧ Kept [] w w' := by
  have HF := hide (form_iff hk hd)
  have HA := hide (heap_alloc_new w (.cells (brow d) 29))
  have HK := hide ((Kept.refl [] w).alloc (.cells (brow d) 29))
  obtain ⟨X, hX⟩ : ∃ X, formB k d = X := ⟨_, rfl⟩
  rw [hX] at HF ⊢
  clear hX
  go_enter Try.func48, Try.ntmps48
  go_wp2_with fail
  obtain ⟨W, hW⟩ : ∃ W, w.alloc (.cells (brow d) 29) = W := ⟨_, rfl⟩
  rw [hW] at HA HK ⊢
  clear hW
  go_loopw [5] (fun t wr => ∃ (i : Nat), k ≤ i ∧ i ≤ 32 ∧ t = .int .i64 i ∧ Hid (∀ j, k ≤ j → j < i → d.getD j 0 = 0) ∧ wr = W) (fun t _ => 32 - (intOf t).toNat)
  case atStart => exact ⟨k, Nat.le_refl _, hk.2, rfl, hide (fun j h1 h2 => by omega), rfl⟩
  case round =>
    obtain ⟨i, hi1, hi2, rfl, HJ, rfl⟩ := hrel
    by_cases hlt : i < 32
    · have hlt' : (i : Int) < 32 := by omega
      have q0 := brow_cell (unhide HA) i (by omega)
      by_cases hz : d.getD i 0 = 0
      · rw [hz] at q0
        have HJ2 := hide (fun j h1 (h2 : j < i + 1) => by by_cases h3 : j = i; rw [h3]; exact hz; exact unhide HJ j h1 (by omega) : ∀ j, k ≤ j → j < i + 1 → d.getD j 0 = 0)
        clear hz
        simp only [Go.Proofs.Ytkcanelboloihaa.u8] at q0
        go_wp2
        refine ⟨⟨i + 1, by omega, by omega, by go_num, HJ2, trivial⟩, ?_⟩
        simp [intOf]; omega
      · have HX := hide (by cases X; rfl; exact absurd ((unhide HF).1 rfl i hi1 hlt) hz : X = false)
        obtain ⟨x, hx⟩ : ∃ x, d.getD i 0 = x := ⟨_, rfl⟩
        rw [hx] at q0 hz
        clear hx
        have hz' : ((x : Int) != 0) = true := by rw [bne_iff_ne]; omega
        simp only [Go.Proofs.Ytkcanelboloihaa.u8] at q0
        go_wp2
        go_ret
        exact ⟨by rw [unhide HX]; rfl, unhide HK⟩
    · have hlt' : ¬ (i : Int) < 32 := by omega
      have HX := hide ((unhide HF).2 (fun j h1 h2 => unhide HJ j h1 (by omega)))
      go_wp2
      go_ret
      exact ⟨by rw [unhide HX]; rfl, unhide HK⟩
end Go.Proofs.Ytkcanelboloihaa
