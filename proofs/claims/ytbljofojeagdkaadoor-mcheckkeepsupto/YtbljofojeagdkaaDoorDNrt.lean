import Derived.Test.YtbljofojeagdkaaDoorDNbr
namespace Go.Proofs.YtbljofojeagdkaaDoor
open Go.RowKit Go.BigFrame
set_option linter.unusedVariables false
set_option linter.unusedSimpArgs false

set_option maxRecDepth 100000 in
set_option maxHeartbeats 1000000 in
theorem node_all (z : Int) (l m : List Nat) (w : World) (hz : -9223372036854775808 ≤ z ∧ z ≤ 9223372036854775807) (hl : l.length = 32) (hm : m.length = 32) (hlb : ∀ x ∈ l, x < 256) (hmb : ∀ x ∈ m, x < 256) (hT : Tabs w) :
    Calls Tryd.prog 66 #[.int .i64 z, .agg (brow l), .agg (brow m)] w fun e w' => e = .returned (.tuple #[.agg (brow (sunD (formedE z [l, m]) z (nodeB z l m))), .int .i64 (sunE (formedE z [l, m]) z)]) ∧ Kept [] w w' := by
  have HT := hide hT
  have HB := hide hlb
  have HB2 := hide hmb
  clear hT hlb hmb
  have hcl := sunD_len (formedE z [l, m]) z (nodeB z l m)
  have HX := hide (by unfold sunD; by_cases h9 : formedE z [l, m] = 0; rw [if_pos h9, if_pos h9, if_pos h9]; rw [if_neg h9, if_neg h9] : sunD (formedE z [l, m]) z (if formedE z [l, m] = 0 then nodeB z l m else []) = sunD (formedE z [l, m]) z (nodeB z l m))
  obtain ⟨f, hf⟩ : ∃ f, formedE z [l, m] = f := ⟨_, rfl⟩
  have HF := hide hf
  rw [hf] at hcl HX ⊢
  clear hf
  obtain ⟨D, hD⟩ : ∃ D, sunD f z (nodeB z l m) = D := ⟨_, rfl⟩
  have HD := hide hD
  rw [hD] at hcl HX ⊢
  clear hD
  obtain ⟨E, hE⟩ : ∃ E, sunE f z = E := ⟨_, rfl⟩
  have HE := hide hE
  rw [hE]
  clear hE
  go_enter Tryd.func66, Tryd.ntmps66
  have HK0 := hide ((((Kept.refl [] w).alloc (.cells (brow l) 23)).alloc (.cells (brow m) 23)).alloc (.cells (zb 32) 23))
  have HGZ := hide (alloc3_at w (.cells (brow l) 23) (.cells (brow m) 23) (.cells (zb 32) 23))
  have HGM := hide (((Kept.refl [] ((w.alloc (.cells (brow l) 23)).alloc (.cells (brow m) 23))).alloc (.cells (zb 32) 23)).heap (alloc_at w (.cells (brow l) 23) (.cells (brow m) 23)) (by simp))
  have HGL := hide ((((Kept.refl [] (w.alloc (.cells (brow l) 23))).alloc (.cells (brow m) 23)).alloc (.cells (zb 32) 23)).heap (heap_alloc_new w (.cells (brow l) 23)) (by simp))
  have HSL := hide (by rw [List.length_map, hl]; exact Tryd.size_dig : (Tryd.prog.info? 23).map (·.size) = some (l.map u8).length)
  have HSM := hide (by rw [List.length_map, hm]; exact Tryd.size_dig : (Tryd.prog.info? 23).map (·.size) = some (m.map u8).length)
  go_wp2_with (first
    | (refine wpList_load_mid rfl 23 _ rfl w.heap.size 0 rfl (l.map u8) _ (range_row (unhide HGL)) Tryd.underlying23 rfl (unhide HSL) ?_)
    | (refine wpList_load_mid rfl 23 _ rfl (w.heap.size + 1) 0 rfl (m.map u8) _ (range_row (unhide HGM)) Tryd.underlying23 rfl (unhide HSM) ?_))
  refine Calls.mono (nodeInput_any z l m _ hz hl hm (unhide HB) (unhide HB2)) ?_
  rintro e w1 ⟨v1, rfl, n1, k1⟩
  rw [unhide HF] at n1 ⊢
  have HR1 := hide n1.1
  obtain ⟨a1, m1, c1, hu1, hm1, _⟩ := id n1.1
  subst hu1
  have HZ1 := hide (k1.heap (unhide HGZ) (by simp))
  have HK1 := hide ((unhide HK0).trans k1 (by simp))
  clear n1 k1 hm1 HGL HGM
  go_wp2_with fail
  refine Calls.mono (sumUnless_any f z _ _ w1 hz (unhide HR1) ((unhide HT).k (unhide HK1))) ?_
  rintro e w2 ⟨rfl, k2⟩
  rw [unhide HX, unhide HE]
  have HZ2 := hide (k2.heap (unhide HZ1) (by simp))
  have HK2 := hide ((unhide HK1).trans k2 (by simp))
  clear k2
  go_wp2_with (refine wpList_store_row rfl 23 _ _ rfl (w.heap.size + 1 + 1) (brow D) rfl rfl _ (zb 32) (unhide HZ2) (by rw [brow_size, hcl]; exact Tryd.size_dig) (by rw [zb_size, brow_size, hcl]) (brow_one _) ?_)
  refine bodyPost_ret (v := .tuple #[.agg (brow D), .int .i64 E]) ?_ rfl ⟨rfl, (unhide HK2).setRow (by simp; omega) _⟩
  exact results_cell_tmp rfl _ _ (w.heap.size + 1 + 1) _ (brow D) (0, 0) _ rfl (setRow_heap _ _ _ _ _ _ (unhide HZ2)) Tryd.underlying23 rfl (by rw [brow_size, hcl]; exact Tryd.size_dig) _ rfl

end Go.Proofs.YtbljofojeagdkaaDoor
