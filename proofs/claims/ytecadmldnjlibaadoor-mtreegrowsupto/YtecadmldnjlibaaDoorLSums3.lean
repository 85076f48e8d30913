import Derived.Test.YtecadmldnjlibaaDoorLDSums
namespace Go.Proofs.YtecadmldnjlibaaDoor
open Go.RowKit Go.BigFrame
set_option linter.unusedVariables false
set_option linter.unusedSimpArgs false

set_option maxRecDepth 100000 in
set_option maxHeartbeats 1000000 in
theorem nolog_any (z : Int) (w : World) (hz : -9223372036854775808 ≤ z ∧ z ≤ 9223372036854775807) (hw : widthB z = true) (hT : Tabs w) :
    Calls Tryd.prog 57 #[.int .i64 z] w fun e w' => e = .returned (.tuple #[.agg (brow (cutL z.toNat (hash []))), .int .i64 0]) ∧ Kept [] w w' := by
  have HT := hide hT
  clear hT
  have hcl := cutL_len z.toNat (hash []) (by have h9 : 1 ≤ z ∧ z ≤ 32 := (by simpa [widthB] using hw); omega) (hash_len [])
  go_enter Tryd.func57, Tryd.ntmps57
  go_wp2_with fail
  rw [zb32]
  refine Calls.mono (dsum_any z _ [] _ hz (RdL.nil _) (by simp) ((unhide HT).k ((Kept.refl [] w).alloc _)) hw) ?_
  rintro e w2 ⟨rfl, k2⟩
  rw [show ([] : List (List Nat)).flatten = [] from rfl]
  have HZ2 := hide (k2.heap (heap_alloc_new w (.cells (zb 32) 41)) (by simp))
  have HK2 := hide (((Kept.refl [] w).alloc (.cells (zb 32) 41)).trans k2 (by simp))
  clear k2
  go_wp2_with (refine wpList_store_row rfl 41 _ _ rfl w.heap.size (brow (cutL z.toNat (hash []))) rfl rfl _ (zb 32) (unhide HZ2) (by rw [brow_size, hcl]; exact Tryd.size_dig) (by rw [zb_size, brow_size, hcl]) (brow_one _) ?_)
  refine bodyPost_ret (v := .tuple #[.agg (brow (cutL z.toNat (hash []))), .int .i64 0]) ?_ rfl ⟨rfl, (unhide HK2).setRow (by simp) _⟩
  exact results_cell_tmp rfl _ _ w.heap.size _ (brow (cutL z.toNat (hash []))) (0, 0) _ rfl (setRow_heap _ _ _ _ _ _ (unhide HZ2)) Tryd.underlying41 rfl (by rw [brow_size, hcl]; exact Tryd.size_dig) _ rfl

set_option maxRecDepth 100000 in
set_option maxHeartbeats 1000000 in
theorem nolog_bad (z : Int) (w : World) (hz : -9223372036854775808 ≤ z ∧ z ≤ 9223372036854775807) (hw : widthB z = false) :
    Calls Tryd.prog 57 #[.int .i64 z] w fun e w' => e = .returned (.tuple #[.agg (zb 32), .int .i64 1]) ∧ Kept [] w w' := by
  go_enter Tryd.func57, Tryd.ntmps57
  go_wp2_with fail
  rw [zb32]
  refine Calls.mono (dsum_bad z _ _ hz hw) ?_
  rintro e w2 ⟨rfl, k2⟩
  have HZ2 := hide (k2.heap (heap_alloc_new w (.cells (zb 32) 41)) (by simp))
  have HK2 := hide (((Kept.refl [] w).alloc (.cells (zb 32) 41)).trans k2 (by simp))
  clear k2
  go_wp2_with (refine wpList_store_row rfl 41 _ _ rfl w.heap.size (zb 32) rfl rfl _ (zb 32) (unhide HZ2) (by rw [zb_size]; exact Tryd.size_dig) rfl (brow_one _) ?_)
  refine bodyPost_ret (v := .tuple #[.agg (zb 32), .int .i64 1]) ?_ rfl ⟨rfl, (unhide HK2).setRow (by simp) _⟩
  exact results_cell_tmp rfl _ _ w.heap.size _ (zb 32) (0, 0) _ rfl (setRow_heap _ _ _ _ _ _ (unhide HZ2)) Tryd.underlying41 rfl (by rw [zb_size]; exact Tryd.size_dig) _ rfl

set_option maxRecDepth 100000 in
set_option maxHeartbeats 1000000 in
theorem refNoLog_any (k : Nat) (w : World) (hk : k ≤ 32) :
    Calls Tryd.prog 38 #[.int .i64 k] w fun e w' => e = .returned (.agg (brow (cutL k (hash [])))) ∧ Kept [] w w' := by
  have hcl := cutL_len k (hash []) hk (hash_len _)
  obtain ⟨C, hC⟩ : ∃ C, cutL k (hash []) = C := ⟨_, rfl⟩
  rw [hC] at hcl ⊢
  have HC := hide hC
  clear hC
  have HS2 := hide (by rw [brow_size, hcl]; exact Tryd.size_dig : (Tryd.prog.info? 41).map (·.size) = some (brow C).size)
  go_enter Tryd.func38, Tryd.ntmps38
  go_wp2_with fail
  rw [zb32]
  refine Calls.mono (refCut_any k _ [] _ (Rd.nil _) hk) ?_
  rintro e w2 ⟨rfl, k2⟩
  rw [unhide HC]
  have HZ2 := hide (k2.heap (heap_alloc_new w (.cells (zb 32) 41)) (by simp))
  have HK2 := hide (((Kept.refl [] w).alloc (.cells (zb 32) 41)).trans k2 (by simp))
  clear k2
  go_wp2_with (refine wpList_store_row rfl 41 _ _ rfl w.heap.size (brow C) rfl rfl _ (zb 32) (unhide HZ2) (unhide HS2) (by rw [zb_size, brow_size, hcl]) (brow_one _) ?_)
  refine bodyPost_ret (v := .agg (brow C)) ?_ rfl ⟨rfl, (unhide HK2).setRow (by simp) _⟩
  exact results_cell_row rfl _ _ w.heap.size _ (brow C) (0, 0) _ rfl (setRow_heap _ _ _ _ _ _ (unhide HZ2)) Tryd.underlying41 rfl (unhide HS2)

/-- What Sum answers. -/
def sumD (z : Int) (p : List Nat) : List Nat := if widthB z then cutL z.toNat (hash p) else List.replicate 32 0
def sumE (z : Int) : Nat := if widthB z then 0 else 1
theorem width_le {z : Int} (h : widthB z = true) : 1 ≤ z ∧ z ≤ 32 := by simpa [widthB] using h
theorem sumD_len (z : Int) (p : List Nat) : (sumD z p).length = 32 := by
  unfold sumD
  cases hw : widthB z with
  | false => simp
  | true => have := width_le hw; rw [if_pos rfl]; exact cutL_len _ _ (by omega) (hash_len _)

theorem dsum_all (z : Int) (v : Value) (ps : List (List Nat)) (w : World) (hz : -9223372036854775808 ≤ z ∧ z ≤ 9223372036854775807) (hv : RdL w v ps) (hl : ps.flatten.length ≤ 140737488355328) (hT : Tabs w) :
    Calls Tryd.prog 66 #[.int .i64 z, v] w fun e w' => e = .returned (.tuple #[.agg (brow (sumD z ps.flatten)), .int .i64 (sumE z)]) ∧ Kept [] w w' := by
  unfold sumD sumE
  cases hw : widthB z with
  | false => exact dsum_bad z v w hz hw
  | true => exact dsum_any z v ps w hz hv hl hT hw

theorem nolog_all (z : Int) (w : World) (hz : -9223372036854775808 ≤ z ∧ z ≤ 9223372036854775807) (hT : Tabs w) :
    Calls Tryd.prog 57 #[.int .i64 z] w fun e w' => e = .returned (.tuple #[.agg (brow (sumD z [])), .int .i64 (sumE z)]) ∧ Kept [] w w' := by
  unfold sumD sumE
  cases hw : widthB z with
  | false => exact nolog_bad z w hz hw
  | true => exact nolog_any z w hz hw hT

theorem Tryd.szD {D : List Nat} (h : D.length = 32) : (Tryd.prog.info? 41).map (·.size) = some (brow D).size := by rw [brow_size, h]; exact Tryd.size_dig
theorem zbD {D : List Nat} (h : D.length = 32) : (brow D).size = (zb 32).size := by rw [zb_size, brow_size, h]
/-- A digest in a new cell. -/
theorem cell_new (w : World) (D : List Nat) : ((w.alloc (.cells (zb 32) 41)).setRow w.heap.size (brow D)).heap[w.heap.size]? = some (.cells (brow D) 41 (0, 0)) := setRow_heap _ _ _ _ _ _ (heap_alloc_new _ _)
theorem kept_new {w0 w : World} (k : Kept [] w0 w) (D : List Nat) : Kept [] w0 ((w.alloc (.cells (zb 32) 41)).setRow w.heap.size (brow D)) := (k.alloc _).setRow (Or.inr k.size) _
theorem kept_old (w : World) (D : List Nat) : Kept [] w ((w.alloc (.cells (zb 32) 41)).setRow w.heap.size (brow D)) := kept_new (Kept.refl [] w) D

theorem eq_zero (D : List Nat) (h : D = List.replicate 32 0) (W : World) : (Op.equalIn 10000 41 (.agg (brow D)) (.agg #[.int .u8 0, .int .u8 0, .int .u8 0, .int .u8 0, .int .u8 0, .int .u8 0, .int .u8 0, .int .u8 0, .int .u8 0, .int .u8 0, .int .u8 0, .int .u8 0, .int .u8 0, .int .u8 0, .int .u8 0, .int .u8 0, .int .u8 0, .int .u8 0, .int .u8 0, .int .u8 0, .int .u8 0, .int .u8 0, .int .u8 0, .int .u8 0, .int .u8 0, .int .u8 0, .int .u8 0, .int .u8 0, .int .u8 0, .int .u8 0, .int .u8 0, .int .u8 0])).run Tryd.prog W = .ok true W := by
  subst h
  have := dig_eq W (List.replicate 32 0) (List.replicate 32 0) (by simp) (by simp)
  rw [decide_eq_true rfl] at this
  rw [zb32]
  exact this
theorem dig_same (D : List Nat) (h : D.length = 32) (W : World) : (Op.equalIn 10000 41 (.agg (brow D)) (.agg (brow D))).run Tryd.prog W = .ok true W := by
  have := dig_eq W D D h h
  rw [decide_eq_true rfl] at this
  exact this

end Go.Proofs.YtecadmldnjlibaaDoor
