import Derived.Test.YtjafmnemobcipaaDoorNTwo
namespace Go.Proofs.YtjafmnemobcipaaDoor
open Go.RowKit Go.BigFrame
set_option linter.unusedVariables false
set_option linter.unusedSimpArgs false

/-- What At answers. -/
def atE (z : Int) (d : List Nat) (i : Int) : Nat := if widthB z = false ∨ i < 0 ∨ 2 * z ≤ i then 1 else if formB z d then 0 else 3
def atC (z : Int) (d : List Nat) (i : Int) : Nat := if atE z d i = 0 then dgt d i.toNat else 0
theorem formedE_one (z : Int) (d : List Nat) : formedE z [d] = if widthB z = false then 1 else if formB z d then 0 else 3 := by simp [formedE]

set_option maxRecDepth 100000 in
set_option maxHeartbeats 1000000 in
theorem at_any (z : Int) (d : List Nat) (i : Int) (w : World) (hz : -9223372036854775808 ≤ z ∧ z ≤ 9223372036854775807) (hi : -9223372036854775808 ≤ i ∧ i ≤ 9223372036854775807) (hd : Dg d) :
    Calls Tryd.prog 55 #[.int .i64 z, .agg (brow d), .int .i64 i] w fun e w' => e = .returned (.tuple #[.int .i64 (atC z d i : Int), .int .i64 (atE z d i : Int)]) ∧ Kept [] w w' := by
  have HD := hide hd
  have hdl := hd.1
  have HGA := hide (heap_alloc_new w (.cells (brow d) 29))
  have HK0 := hide ((Kept.refl [] w).alloc (.cells (brow d) 29))
  obtain ⟨Z, hZ⟩ : ∃ Z, IntKind.i64.wrap (2 * z) = Z := ⟨_, rfl⟩
  have hZ2 : (2 * z + 9223372036854775808) % 18446744073709551616 - 9223372036854775808 = Z := by
    rw [← hZ]; simp [IntKind.wrap, IntKind.signed, IntKind.bits]; omega
  by_cases h0 : i < 0
  · have e1 : atE z d i = 1 := by unfold atE; rw [if_pos (by omega)]
    have e2 : atC z d i = 0 := by unfold atC; rw [e1]; rfl
    rw [e1, e2]
    clear e1 e2
    go_enter Tryd.func55, Tryd.ntmps55
    go_wp2
    go_ret2
    exact ⟨rfl, unhide HK0⟩
  · by_cases h1 : Z ≤ i
    · have e1 : atE z d i = 1 := by
        unfold atE
        by_cases hw : widthB z = true
        · rw [if_pos]
          simp [widthB] at hw
          right; right; omega
        · rw [if_pos (by simp at hw; simp [hw])]
      have e2 : atC z d i = 0 := by unfold atC; rw [e1]; rfl
      rw [e1, e2]
      clear e1 e2
      go_enter Tryd.func55, Tryd.ntmps55
      go_wp2
      go_ret2
      exact ⟨rfl, unhide HK0⟩
    · have HF := hide (formedE_one z d)
      have HE := hide (by
        unfold atE
        rw [unhide HF]
        by_cases hw : widthB z = true
        · have hw2 := hw
          simp [widthB] at hw2
          rw [if_neg (by rw [hw]; simp; omega), hw]; simp
        · simp at hw; simp [hw] : atE z d i = formedE z [d])
      have HC := hide (by unfold atC; rw [unhide HE] : atC z d i = if formedE z [d] = 0 then dgt d i.toNat else 0)
      have HI := hide (fun (h : formedE z [d] = 0) => by
        have hw : widthB z = true := by
          unfold formedE at h
          cases hw : widthB z with
          | false => rw [hw] at h; simp at h
          | true => rfl
        simp [widthB] at hw
        exact ⟨⟨i.toNat, by omega⟩, by omega⟩ : formedE z [d] = 0 → (∃ k : Nat, i = k) ∧ i < 64)
      rw [unhide HE]
      obtain ⟨f, hf⟩ : ∃ f, formedE z [d] = f := ⟨_, rfl⟩
      obtain ⟨C, hC⟩ : ∃ C, atC z d i = C := ⟨_, rfl⟩
      have HFF := hide hf
      rw [hf, hC] at HC
      rw [hf] at HI
      rw [hf, hC]
      clear hf hC HE HF
      go_enter Tryd.func55, Tryd.ntmps55
      go_wp2_with (refine wpList_load_mid rfl 29 _ rfl w.heap.size 0 rfl (d.map u8) _ (range_row (unhide HGA)) Tryd.underlying29 rfl (by rw [List.length_map, hdl]; exact Tryd.size_dig) ?_)
      rw [zb32, one_dig d hdl]
      refine Calls.mono (nformed_any z _ [d] _ hz (RdD.one (alloc_at _ _ _) hd)) ?_
      rintro e w1 ⟨rfl, k1⟩
      have k01 := ((Kept.refl [] (w.alloc (.cells (brow d) 29))).alloc (.cells (brow d) 29)).trans k1 (by simp)
      have HK1 := hide ((unhide HK0).trans k01 (by simp))
      have HG1 := hide (k01.heap (unhide HGA) (by simp))
      clear k1 k01 HGA
      rw [unhide HFF]
      by_cases hf0 : f = 0
      · subst hf0
        obtain ⟨⟨j, rfl⟩, hj⟩ := unhide HI rfl
        rw [if_pos rfl, Int.toNat_natCast] at HC
        clear HI hZ hZ2 h1 h0 HFF
        go_wp2_with (refine wpList_load_row rfl 29 _ rfl w.heap.size rfl _ (brow d) (0, 0) _ (unhide HG1) Tryd.underlying29 rfl (by rw [brow_size, hdl]; exact Tryd.size_dig) ?_)
        refine Calls.mono (digit_any d j _ hdl hd.2 (by omega)) ?_
        rintro e w2 ⟨rfl, k2⟩
        go_wp2
        go_ret2
        exact ⟨by rw [unhide HC]; rfl, (unhide HK1).trans k2 (by simp)⟩
      · have hf0' : ((f : Int) != 0) = true := by rw [bne_iff_ne]; omega
        rw [if_neg hf0] at HC
        clear HI hZ hZ2 HFF
        go_wp2
        go_ret2
        exact ⟨by rw [unhide HC]; rfl, unhide HK1⟩
end Go.Proofs.YtjafmnemobcipaaDoor
