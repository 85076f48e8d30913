import Derived.Test.YtbljofojeagdkaaDoorMT1
namespace Go.Proofs.YtbljofojeagdkaaDoor
open Go.RowKit Go.BigFrame
set_option linter.unusedVariables false
set_option linter.unusedSimpArgs false

set_option maxRecDepth 100000 in
theorem newT_bad (z : Int) (w : World) (h : widthB z = false) :
    Calls Tryd.prog 23 #[.int .i64 z] w fun e w' => e = .returned (.tuple #[.pointer none, .int .i64 1]) ∧ Kept [] w w' := by
  have hz : ¬ (1 ≤ z ∧ z ≤ 32) := by simpa [widthB] using h
  clear h
  by_cases h1 : z < 1
  · go_enter Tryd.func23, Tryd.ntmps23
    go_wp2
    exact bodyPost_ret (results_tmp2 rfl _ _ _) rfl ⟨rfl, Kept.refl _ _⟩
  · have h2 : 32 < z := by omega
    go_enter Tryd.func23, Tryd.ntmps23
    go_wp2
    exact bodyPost_ret (results_tmp2 rfl _ _ _) rfl ⟨rfl, Kept.refl _ _⟩

set_option maxRecDepth 100000 in
theorem newT_any (z : Int) (w : World) (h : widthB z = true) :
    Calls Tryd.prog 23 #[.int .i64 z] w fun e w' => ∃ t, e = .returned (.tuple #[.pointer (some ⟨t, 0, none⟩), .int .i64 0]) ∧ w.heap.size ≤ t ∧ TreeAt z w' t (.slice none 0 0) [] ∧ Kept [] w w' := by
  have hz : 1 ≤ z ∧ z ≤ 32 := by simpa [widthB] using h
  have HW := hide h
  clear h
  obtain ⟨h1, h2⟩ := hz
  have h1' : ¬ z < 1 := by omega
  have h2' : ¬ 32 < z := by omega
  go_enter Tryd.func23, Tryd.ntmps23
  go_wp2
  exact bodyPost_ret (results_tmp2 rfl _ _ _) rfl ⟨_, rfl, Nat.le_refl _, TreeAt.nil (heap_alloc_new _ _) (unhide HW), (Kept.refl [] w).alloc _⟩

theorem sizeT_nil (w : World) : Calls Tryd.prog 56 #[.pointer none] w fun e w' => e = .returned (.int .u64 0) ∧ w' = w := by
  go_enter Tryd.func56, Tryd.ntmps56
  go_wp2
  go_ret
  exact ⟨rfl, rfl⟩

theorem sizeT_any (t : Nat) (z : Int) (v : Value) (ps : List Pk) (w : World) (h : TreeAt z w t v ps) : Calls Tryd.prog 56 #[.pointer (some ⟨t, 0, none⟩)] w fun e w' => e = .returned (.int .u64 ((leavesK ps).length : Int)) ∧ w' = w := by
  have c1 := cell_of_row _ _ 1 _ _ _ h.row
  simp at c1
  generalize (leavesK ps).length = n at c1 ⊢
  clear h
  go_enter Tryd.func56, Tryd.ntmps56
  go_wp2
  go_ret
  exact ⟨rfl, rfl⟩

set_option maxRecDepth 100000 in
set_option maxHeartbeats 1000000 in
theorem overT_any (z : Int) (l m : List Nat) (w : World) (hw : widthB z = true) (hl : Dg l) (hm : Dg m) (fl : formB z l = true) (fm : formB z m = true) (hT : Tabs w) :
    Calls Tryd.prog 63 #[.int .i64 z, .agg (brow l), .agg (brow m)] w fun e w' => e = .returned (.agg (brow (nodT z l m))) ∧ Kept [] w w' := by
  have hz : 1 ≤ z ∧ z ≤ 32 := by simpa [widthB] using hw
  have hf : formedE z [l, m] = 0 := by simp [formedE, hw, fl, fm]
  have HN := hide (fun W (k : Kept [] w W) => (by have := node_all z l m W (by omega) hl.1 hm.1 hl.2 hm.2 (hT.kept k (by simp) (by simp)); rw [hf] at this; exact this : Calls Tryd.prog 66 #[.int .i64 z, .agg (brow l), .agg (brow m)] W fun e w' => e = .returned (.tuple #[.agg (brow (nodT z l m)), .int .i64 (sunE 0 z)]) ∧ Kept [] W w'))
  have hdg : Dg (nodT z l m) := nodS_dg z l m
  generalize nodT z l m = D at HN hdg ⊢
  have HK0 := hide ((((Kept.refl [] w).alloc (.cells (brow l) 23)).alloc (.cells (brow m) 23)).alloc (.cells (zb 32) 23))
  have HGZ := hide (alloc3_at w (.cells (brow l) 23) (.cells (brow m) 23) (.cells (zb 32) 23))
  have HGM := hide (((Kept.refl [] ((w.alloc (.cells (brow l) 23)).alloc (.cells (brow m) 23))).alloc (.cells (zb 32) 23)).heap (alloc_at w (.cells (brow l) 23) (.cells (brow m) 23)) (by simp))
  have HGL := hide ((((Kept.refl [] (w.alloc (.cells (brow l) 23))).alloc (.cells (brow m) 23)).alloc (.cells (zb 32) 23)).heap (heap_alloc_new w (.cells (brow l) 23)) (by simp))
  have HSL := hide (by rw [List.length_map, hl.1]; exact Tryd.size_dig : (Tryd.prog.info? 23).map (·.size) = some (l.map u8).length)
  have HSM := hide (by rw [List.length_map, hm.1]; exact Tryd.size_dig : (Tryd.prog.info? 23).map (·.size) = some (m.map u8).length)
  have hcl := hdg.1
  clear hf fl fm hdg hl hm hT
  go_enter Tryd.func63, Tryd.ntmps63
  go_wp2_with (first
    | (refine wpList_load_mid rfl 23 _ rfl w.heap.size 0 rfl (l.map u8) _ (range_row (unhide HGL)) Tryd.underlying23 rfl (unhide HSL) ?_)
    | (refine wpList_load_mid rfl 23 _ rfl (w.heap.size + 1) 0 rfl (m.map u8) _ (range_row (unhide HGM)) Tryd.underlying23 rfl (unhide HSM) ?_))
  refine Calls.mono (unhide HN _ (unhide HK0)) ?_
  rintro e w1 ⟨rfl, k1⟩
  have HZ1 := hide (k1.heap (unhide HGZ) (by simp))
  have HK1 := hide ((unhide HK0).trans k1 (by simp))
  clear k1 HGL HGM HGZ HN
  have hlt1 := lt_of_block (unhide HZ1)
  have HA := hide (heap_alloc_new w1 (.cells (zb 32) 23))
  have HD1 := hide (setRow_heap (w1.alloc (.cells (zb 32) 23)) w1.heap.size (zb 32) (brow D) 23 (0, 0) (unhide HA))
  have HZ2 := hide ((setRow_other (w1.alloc (.cells (zb 32) 23)) w1.heap.size (w.heap.size + 1 + 1) (brow D) (by omega)).trans (((Kept.refl [] w1).alloc (.cells (zb 32) 23)).heap (unhide HZ1) (by simp)))
  have HK2 := hide (((unhide HK1).alloc (.cells (zb 32) 23)).setRow (g := w1.heap.size) (Or.inr (by have := (unhide HK1).size; omega)) (brow D))
  go_wp2_with (first
    | (refine wpList_store_row rfl 23 _ _ rfl w1.heap.size (brow D) rfl rfl _ (zb 32) (by exact unhide HA) (by rw [brow_size, hcl]; exact Tryd.size_dig) (by rw [zb_size, brow_size, hcl]) (brow_one _) ?_; clear HA)
    | (refine wpList_load_row rfl 23 _ rfl w1.heap.size rfl _ (brow D) (0, 0) _ (by exact unhide HD1) Tryd.underlying23 rfl (by rw [brow_size, hcl]; exact Tryd.size_dig) ?_)
    | (refine wpList_store_row rfl 23 _ _ rfl (w.heap.size + 1 + 1) (brow D) rfl rfl _ (zb 32) (by exact unhide HZ2) (by rw [brow_size, hcl]; exact Tryd.size_dig) (by rw [zb_size, brow_size, hcl]) (brow_one _) ?_))
  refine bodyPost_ret (v := .agg (brow D)) ?_ rfl ⟨rfl, (unhide HK2).setRow (Or.inr (by omega)) _⟩
  exact results_cell_row rfl _ _ (w.heap.size + 1 + 1) _ (brow D) (0, 0) _ rfl (setRow_heap _ _ _ _ _ _ (unhide HZ2)) Tryd.underlying23 rfl (by rw [brow_size, hcl]; exact Tryd.size_dig)

end Go.Proofs.YtbljofojeagdkaaDoor
