import Derived.Test.YtmgjdcpfeihioaaDoorLDSums
namespace Go.Proofs.YtmgjdcpfeihioaaDoor
open Go.RowKit Go.BigFrame
set_option linter.unusedVariables false
set_option linter.unusedSimpArgs false

/-- What Sum answers. -/
def sumD (z : Int) (p : List Nat) : List Nat := if widthB z then cutL z.toNat (hash p) else List.replicate 32 0
def sumE (z : Int) : Nat := if widthB z then 0 else 1
theorem width_le {z : Int} (h : widthB z = true) : 1 ≤ z ∧ z ≤ 32 := by simpa [widthB] using h
theorem sumD_len (z : Int) (p : List Nat) : (sumD z p).length = 32 := by
  unfold sumD
  cases hw : widthB z with
  | false => simp
  | true => have := width_le hw; rw [if_pos rfl]; exact cutL_len _ _ (by omega) (hash_len _)

theorem dsum_all (z : Int) (v : Value) (ps : List (List Nat)) (w : World) (hz : -9223372036854775808 ≤ z ∧ z ≤ 9223372036854775807) (hv : RdL w v ps) (hl : ps.flatten.length ≤ 140737488355328) (hT : Tabs w) :
    Calls Tryd.prog 25 #[.int .i64 z, v] w fun e w' => e = .returned (.tuple #[.agg (brow (sumD z ps.flatten)), .int .i64 (sumE z)]) ∧ Kept [] w w' := by
  unfold sumD sumE
  cases hw : widthB z with
  | false => exact dsum_bad z v w hz hw
  | true => exact dsum_any z v ps w hz hv hl hT hw

theorem Tryd.szD {D : List Nat} (h : D.length = 32) : (Tryd.prog.info? 23).map (·.size) = some (brow D).size := by rw [brow_size, h]; exact Tryd.size_dig
theorem zbD {D : List Nat} (h : D.length = 32) : (brow D).size = (zb 32).size := by rw [zb_size, brow_size, h]
/-- A digest in a new cell. -/
theorem cell_new (w : World) (D : List Nat) : ((w.alloc (.cells (zb 32) 23)).setRow w.heap.size (brow D)).heap[w.heap.size]? = some (.cells (brow D) 23 (0, 0)) := setRow_heap _ _ _ _ _ _ (heap_alloc_new _ _)
theorem kept_new {w0 w : World} (k : Kept [] w0 w) (D : List Nat) : Kept [] w0 ((w.alloc (.cells (zb 32) 23)).setRow w.heap.size (brow D)) := (k.alloc _).setRow (Or.inr k.size) _
theorem kept_old (w : World) (D : List Nat) : Kept [] w ((w.alloc (.cells (zb 32) 23)).setRow w.heap.size (brow D)) := kept_new (Kept.refl [] w) D

theorem eq_zero (D : List Nat) (h : D = List.replicate 32 0) (W : World) : (Op.equalIn 10000 23 (.agg (brow D)) (.agg #[.int .u8 0, .int .u8 0, .int .u8 0, .int .u8 0, .int .u8 0, .int .u8 0, .int .u8 0, .int .u8 0, .int .u8 0, .int .u8 0, .int .u8 0, .int .u8 0, .int .u8 0, .int .u8 0, .int .u8 0, .int .u8 0, .int .u8 0, .int .u8 0, .int .u8 0, .int .u8 0, .int .u8 0, .int .u8 0, .int .u8 0, .int .u8 0, .int .u8 0, .int .u8 0, .int .u8 0, .int .u8 0, .int .u8 0, .int .u8 0, .int .u8 0, .int .u8 0])).run Tryd.prog W = .ok true W := by
  subst h
  have := dig_eq W (List.replicate 32 0) (List.replicate 32 0) (by simp) (by simp)
  rw [decide_eq_true rfl] at this
  rw [zb32]
  exact this
theorem dig_same (D : List Nat) (h : D.length = 32) (W : World) : (Op.equalIn 10000 23 (.agg (brow D)) (.agg (brow D))).run Tryd.prog W = .ok true W := by
  have := dig_eq W D D h h
  rw [decide_eq_true rfl] at this
  exact this

end Go.Proofs.YtmgjdcpfeihioaaDoor
