import Derived.Test.YtpjemdafbdmpcaaDoorSSum
namespace Go.Proofs.YtpjemdafbdmpcaaDoor
open Go.RowKit Go.BigFrame
set_option linter.unusedVariables false
set_option linter.unusedSimpArgs false


set_option maxRecDepth 100000 in
set_option maxHeartbeats 1000000 in
theorem sum256_any (v : Value) (p : List Nat) (w : World) (h : Rd w v p) (hl : p.length ≤ 140737488355328) (hT : Tabs w) :
    Calls Tryd.prog 33 #[v] w fun e w' => e = .returned (.agg (brow (hash p))) ∧ Kept [] w w' := by
  have H := hide h
  have HT := hide hT
  have h2 := hT.two
  have HB := hide (show 0 < p.length → w.heap.size + 1 ∉ blk v from by
    intro hp
    obtain ⟨ao, len, cap, rfl, rfl, _, _, h4, _, h6⟩ := h
    obtain ⟨b, o, rfl, hc⟩ := h6 hp
    have := block_lt_of_cell (hc 0 hp)
    simp at this
    simp [blk]; omega)
  clear h hT
  have hzs := zero_st
  go_enter Tryd.func33, Tryd.ntmps33
  go_wp2_with fail
  rw [zb32]
  have HK0 := hide (((Kept.refl [] w).alloc (.cells (zb 32) 22)).alloc (.cells zst 100))
  refine (write_any (w.heap.size + 1) [] v p _ (st_zero (heap_alloc2_new _ _ _)) ((unhide H).old (unhide HK0) (by simp)) (unhide HB) (by omega) (by simp; omega) ((unhide HT).kept (unhide HK0) (by simp) (by simp))).mono ?_
  rintro e w1 ⟨rfl, s1, k1⟩
  rw [List.nil_append] at s1
  have HS1 := hide s1
  have HK1 := hide ((unhide HK0).trans k1 (by simp))
  have HZ1 := hide (k1.heap (heap_alloc2_old w (.cells (zb 32) 22) (.cells zst 100)) (by simp))
  clear s1 k1
  go_wp2_with fail
  refine (ssum_any (w.heap.size + 1) p w1 (unhide HS1) (by omega) ((unhide HT).kept (unhide HK1) (by simp) (by simp))).mono ?_
  rintro e w2 ⟨rfl, k2⟩
  have HK2 := hide ((unhide HK1).trans k2 (by simp))
  have HZ2 := hide (k2.heap (unhide HZ1) (by simp))
  clear k2
  have hhl : (hash p).length = 32 := by unfold hash hashW; rw [dig_len, (chain_ok _ h0_wds).1]
  have Hhl := hide hhl
  clear hhl
  obtain ⟨d, hd⟩ : ∃ d, d = hash p := ⟨_, rfl⟩
  rw [← hd] at Hhl ⊢
  have Hd := hide hd
  clear hd
  go_wp2_with (refine wpList_store_row rfl 22 _ _ rfl w.heap.size (brow d) rfl rfl _ (zb 32) (unhide HZ2) (by rw [brow_size, unhide Hhl]; exact Tryd.size_a32b) (by rw [zb_size, brow_size, unhide Hhl]) (brow_one _) ?_)
  refine bodyPost_ret (v := .agg (brow d)) ?_ rfl ⟨by rw [unhide Hd], (unhide HK2).setRow (by simp) _⟩
  exact results_cell_row rfl _ _ w.heap.size _ (brow d) (0, 0) _ rfl (setRow_heap _ _ _ _ _ _ (unhide HZ2)) Tryd.underlying22 rfl (by rw [brow_size, unhide Hhl]; exact Tryd.size_a32b)
end Go.Proofs.YtpjemdafbdmpcaaDoor
