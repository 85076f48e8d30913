import Derived.Test.YtbbjbpjpejekgaaDoorLDSums
namespace Go.Proofs.YtbbjbpjpejekgaaDoor
open Go.RowKit Go.BigFrame
set_option linter.unusedVariables false
set_option linter.unusedSimpArgs false

set_option maxRecDepth 100000 in
set_option maxHeartbeats 1000000 in
theorem nomap_bad (z : Int) (w : World) (hz : -9223372036854775808 ≤ z ∧ z ≤ 9223372036854775807) (hw : widthB z = false) :
    Calls Tryd.prog 20 #[.int .i64 z] w fun e w' => e = .returned (.tuple #[.agg (zb 32), .int .i64 1]) ∧ Kept [] w w' := by
  go_enter Tryd.func20, Tryd.ntmps20
  go_wp2_with fail
  rw [zb32]
  refine Calls.mono (tagged_any 5 _ [] _ (by decide) (RdL.nil _) (by simp)) ?_
  rintro e w1 ⟨g, rfl, hg, h1, k1⟩
  have HZ1 := hide (k1.heap (heap_alloc_new w (.cells (zb 32) 26)) (by simp))
  have HK1 := hide (((Kept.refl [] w).alloc (.cells (zb 32) 26)).trans k1 (by simp))
  clear h1 k1
  go_wp2_with fail
  refine Calls.mono (dsum_bad z _ _ hz hw) ?_
  rintro e w2 ⟨rfl, k2⟩
  have HZ2 := hide (k2.heap ((Kept.refl [] w1).alloc (.cells #[.slice (some ⟨g, 0, none⟩) 1 1] 24) |>.heap (unhide HZ1) (by simp)) (by simp))
  have HK2 := hide (((unhide HK1).alloc _).trans k2 (by simp))
  clear k2
  go_wp2_with (refine wpList_store_row rfl 26 _ _ rfl w.heap.size (zb 32) rfl rfl _ (zb 32) (unhide HZ2) (by rw [zb_size]; exact Tryd.size_dig) rfl (brow_one _) ?_)
  refine bodyPost_ret (v := .tuple #[.agg (zb 32), .int .i64 1]) ?_ rfl ⟨rfl, (unhide HK2).setRow (by simp) _⟩
  exact results_cell_tmp rfl _ _ w.heap.size _ (zb 32) (0, 0) _ rfl (setRow_heap _ _ _ _ _ _ (unhide HZ2)) Tryd.underlying26 rfl (by rw [zb_size]; exact Tryd.size_dig) _ rfl

/-- What Sum answers. -/
def sumD (z : Int) (p : List Nat) : List Nat := if widthB z then cutL z.toNat (hash p) else List.replicate 32 0
def sumE (z : Int) : Nat := if widthB z then 0 else 1
theorem width_le {z : Int} (h : widthB z = true) : 1 ≤ z ∧ z ≤ 32 := by simpa [widthB] using h
theorem sumD_len (z : Int) (p : List Nat) : (sumD z p).length = 32 := by
  unfold sumD
  cases hw : widthB z with
  | false => simp
  | true => have := width_le hw; rw [if_pos rfl]; exact cutL_len _ _ (by omega) (hash_len _)

theorem dsum_all (z : Int) (v : Value) (ps : List (List Nat)) (w : World) (hz : -9223372036854775808 ≤ z ∧ z ≤ 9223372036854775807) (hv : RdL w v ps) (hl : ps.flatten.length ≤ 140737488355328) (hT : Tabs w) :
    Calls Tryd.prog 19 #[.int .i64 z, v] w fun e w' => e = .returned (.tuple #[.agg (brow (sumD z ps.flatten)), .int .i64 (sumE z)]) ∧ Kept [] w w' := by
  unfold sumD sumE
  cases hw : widthB z with
  | false => exact dsum_bad z v w hz hw
  | true => exact dsum_any z v ps w hz hv hl hT hw

theorem nomap_all (z : Int) (w : World) (hz : -9223372036854775808 ≤ z ∧ z ≤ 9223372036854775807) (hT : Tabs w) :
    Calls Tryd.prog 20 #[.int .i64 z] w fun e w' => e = .returned (.tuple #[.agg (brow (sumD z [5])), .int .i64 (sumE z)]) ∧ Kept [] w w' := by
  unfold sumD sumE
  cases hw : widthB z with
  | false => exact nomap_bad z w hz hw
  | true => exact nomap_any z w hz hw hT

theorem docSum_all (z : Int) (v : Value) (ps : List (List Nat)) (w : World) (hz : -9223372036854775808 ≤ z ∧ z ≤ 9223372036854775807) (hv : RdL w v ps) (hl : ps.flatten.length ≤ 140737488355328) :
    Calls Tryd.prog 48 #[.int .i64 z, v] w fun e w' => e = .returned (.tuple #[.agg (brow (sumD z ps.flatten)), .int .i64 (sumE z)]) ∧ Kept [] w w' := by
  unfold sumD sumE
  cases hw : widthB z with
  | false => exact docSum_bad z v w hz hw
  | true =>
    have h9 := width_le hw
    obtain ⟨k, rfl⟩ : ∃ k : Nat, z = k := ⟨z.toNat, by omega⟩
    exact docSum_good k v ps w (by omega) hv hl

theorem Tryd.szD {D : List Nat} (h : D.length = 32) : (Tryd.prog.info? 26).map (·.size) = some (brow D).size := by rw [brow_size, h]; exact Tryd.size_dig
theorem zbD {D : List Nat} (h : D.length = 32) : (brow D).size = (zb 32).size := by rw [zb_size, brow_size, h]
/-- A digest in a new cell. -/
theorem cell_new (w : World) (D : List Nat) : ((w.alloc (.cells (zb 32) 26)).setRow w.heap.size (brow D)).heap[w.heap.size]? = some (.cells (brow D) 26 (0, 0)) := setRow_heap _ _ _ _ _ _ (heap_alloc_new _ _)
theorem kept_new {w0 w : World} (k : Kept [] w0 w) (D : List Nat) : Kept [] w0 ((w.alloc (.cells (zb 32) 26)).setRow w.heap.size (brow D)) := (k.alloc _).setRow (Or.inr k.size) _
theorem kept_old (w : World) (D : List Nat) : Kept [] w ((w.alloc (.cells (zb 32) 26)).setRow w.heap.size (brow D)) := kept_new (Kept.refl [] w) D

theorem eq_zero (D : List Nat) (h : D = List.replicate 32 0) (W : World) : (Op.equalIn 10000 26 (.agg (brow D)) (.agg #[.int .u8 0, .int .u8 0, .int .u8 0, .int .u8 0, .int .u8 0, .int .u8 0, .int .u8 0, .int .u8 0, .int .u8 0, .int .u8 0, .int .u8 0, .int .u8 0, .int .u8 0, .int .u8 0, .int .u8 0, .int .u8 0, .int .u8 0, .int .u8 0, .int .u8 0, .int .u8 0, .int .u8 0, .int .u8 0, .int .u8 0, .int .u8 0, .int .u8 0, .int .u8 0, .int .u8 0, .int .u8 0, .int .u8 0, .int .u8 0, .int .u8 0, .int .u8 0])).run Tryd.prog W = .ok true W := by
  subst h
  have := dig_eq W (List.replicate 32 0) (List.replicate 32 0) (by simp) (by simp)
  rw [decide_eq_true rfl] at this
  rw [zb32]
  exact this
theorem dig_same (D : List Nat) (h : D.length = 32) (W : World) : (Op.equalIn 10000 26 (.agg (brow D)) (.agg (brow D))).run Tryd.prog W = .ok true W := by
  have := dig_eq W D D h h
  rw [decide_eq_true rfl] at this
  exact this

end Go.Proofs.YtbbjbpjpejekgaaDoor
