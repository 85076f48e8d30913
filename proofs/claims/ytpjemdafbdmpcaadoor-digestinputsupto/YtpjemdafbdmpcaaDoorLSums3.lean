import Derived.Test.YtpjemdafbdmpcaaDoorLDSums
namespace Go.Proofs.YtpjemdafbdmpcaaDoor
open Go.RowKit Go.BigFrame
set_option linter.unusedVariables false
set_option linter.unusedSimpArgs false

set_option maxRecDepth 100000 in
set_option maxHeartbeats 1000000 in
theorem nomap_bad (z : Int) (w : World) (hz : -9223372036854775808 ≤ z ∧ z ≤ 9223372036854775807) (hw : widthB z = false) :
    Calls Tryd.prog 16 #[.int .i64 z] w fun e w' => e = .returned (.tuple #[.agg (zb 32), .int .i64 1]) ∧ Kept [] w w' := by
  go_enter Tryd.func16, Tryd.ntmps16
  go_wp2_with fail
  rw [zb32]
  refine Calls.mono (tagged_any 5 _ [] _ (by decide) (RdL.nil _) (by simp)) ?_
  rintro e w1 ⟨g, rfl, hg, h1, k1⟩
  have HZ1 := hide (k1.heap (heap_alloc_new w (.cells (zb 32) 23)) (by simp))
  have HK1 := hide (((Kept.refl [] w).alloc (.cells (zb 32) 23)).trans k1 (by simp))
  clear h1 k1
  go_wp2_with fail
  refine Calls.mono (dsum_bad z _ _ hz hw) ?_
  rintro e w2 ⟨rfl, k2⟩
  have HZ2 := hide (k2.heap ((Kept.refl [] w1).alloc (.cells #[.slice (some ⟨g, 0, none⟩) 1 1] 37) |>.heap (unhide HZ1) (by simp)) (by simp))
  have HK2 := hide (((unhide HK1).alloc _).trans k2 (by simp))
  clear k2
  go_wp2_with (refine wpList_store_row rfl 23 _ _ rfl w.heap.size (zb 32) rfl rfl _ (zb 32) (unhide HZ2) (by rw [zb_size]; exact Tryd.size_dig) rfl (brow_one _) ?_)
  refine bodyPost_ret (v := .tuple #[.agg (zb 32), .int .i64 1]) ?_ rfl ⟨rfl, (unhide HK2).setRow (by simp) _⟩
  exact results_cell_tmp rfl _ _ w.heap.size _ (zb 32) (0, 0) _ rfl (setRow_heap _ _ _ _ _ _ (unhide HZ2)) Tryd.underlying23 rfl (by rw [zb_size]; exact Tryd.size_dig) _ rfl

set_option maxRecDepth 100000 in
set_option maxHeartbeats 1000000 in
theorem nolog_any (z : Int) (w : World) (hz : -9223372036854775808 ≤ z ∧ z ≤ 9223372036854775807) (hw : widthB z = true) (hT : Tabs w) :
    Calls Tryd.prog 15 #[.int .i64 z] w fun e w' => e = .returned (.tuple #[.agg (brow (cutL z.toNat (hash []))), .int .i64 0]) ∧ Kept [] w w' := by
  have HT := hide hT
  clear hT
  have hcl := cutL_len z.toNat (hash []) (by have h9 : 1 ≤ z ∧ z ≤ 32 := (by simpa [widthB] using hw); omega) (hash_len [])
  go_enter Tryd.func15, Tryd.ntmps15
  go_wp2_with fail
  rw [zb32]
  refine Calls.mono (dsum_any z _ [] _ hz (RdL.nil _) (by simp) ((unhide HT).k ((Kept.refl [] w).alloc _)) hw) ?_
  rintro e w2 ⟨rfl, k2⟩
  rw [show ([] : List (List Nat)).flatten = [] from rfl]
  have HZ2 := hide (k2.heap (heap_alloc_new w (.cells (zb 32) 23)) (by simp))
  have HK2 := hide (((Kept.refl [] w).alloc (.cells (zb 32) 23)).trans k2 (by simp))
  clear k2
  go_wp2_with (refine wpList_store_row rfl 23 _ _ rfl w.heap.size (brow (cutL z.toNat (hash []))) rfl rfl _ (zb 32) (unhide HZ2) (by rw [brow_size, hcl]; exact Tryd.size_dig) (by rw [zb_size, brow_size, hcl]) (brow_one _) ?_)
  refine bodyPost_ret (v := .tuple #[.agg (brow (cutL z.toNat (hash []))), .int .i64 0]) ?_ rfl ⟨rfl, (unhide HK2).setRow (by simp) _⟩
  exact results_cell_tmp rfl _ _ w.heap.size _ (brow (cutL z.toNat (hash []))) (0, 0) _ rfl (setRow_heap _ _ _ _ _ _ (unhide HZ2)) Tryd.underlying23 rfl (by rw [brow_size, hcl]; exact Tryd.size_dig) _ rfl

set_option maxRecDepth 100000 in
set_option maxHeartbeats 1000000 in
theorem nolog_bad (z : Int) (w : World) (hz : -9223372036854775808 ≤ z ∧ z ≤ 9223372036854775807) (hw : widthB z = false) :
    Calls Tryd.prog 15 #[.int .i64 z] w fun e w' => e = .returned (.tuple #[.agg (zb 32), .int .i64 1]) ∧ Kept [] w w' := by
  go_enter Tryd.func15, Tryd.ntmps15
  go_wp2_with fail
  rw [zb32]
  refine Calls.mono (dsum_bad z _ _ hz hw) ?_
  rintro e w2 ⟨rfl, k2⟩
  have HZ2 := hide (k2.heap (heap_alloc_new w (.cells (zb 32) 23)) (by simp))
  have HK2 := hide (((Kept.refl [] w).alloc (.cells (zb 32) 23)).trans k2 (by simp))
  clear k2
  go_wp2_with (refine wpList_store_row rfl 23 _ _ rfl w.heap.size (zb 32) rfl rfl _ (zb 32) (unhide HZ2) (by rw [zb_size]; exact Tryd.size_dig) rfl (brow_one _) ?_)
  refine bodyPost_ret (v := .tuple #[.agg (zb 32), .int .i64 1]) ?_ rfl ⟨rfl, (unhide HK2).setRow (by simp) _⟩
  exact results_cell_tmp rfl _ _ w.heap.size _ (zb 32) (0, 0) _ rfl (setRow_heap _ _ _ _ _ _ (unhide HZ2)) Tryd.underlying23 rfl (by rw [zb_size]; exact Tryd.size_dig) _ rfl

set_option maxRecDepth 100000 in
set_option maxHeartbeats 1000000 in
theorem refNoMap_any (k : Nat) (w : World) (hk : k ≤ 32) :
    Calls Tryd.prog 18 #[.int .i64 k] w fun e w' => e = .returned (.agg (brow (cutL k (hash [5])))) ∧ Kept [] w w' := by
  have hcl := cutL_len k (hash [5]) hk (hash_len _)
  obtain ⟨C, hC⟩ : ∃ C, cutL k (hash [5]) = C := ⟨_, rfl⟩
  rw [hC] at hcl ⊢
  have HC := hide hC
  clear hC
  have HS2 := hide (by rw [brow_size, hcl]; exact Tryd.size_dig : (Tryd.prog.info? 23).map (·.size) = some (brow C).size)
  go_enter Tryd.func18, Tryd.ntmps18
  go_wp2_with fail
  rw [zb32]
  refine Calls.mono (refCut_any k _ [5] _ (rd_lit1 [5] (heap_alloc2_new _ _ _) rfl (by decide) 1 rfl (by decide)) hk) ?_
  rintro e w2 ⟨rfl, k2⟩
  rw [unhide HC]
  have HZ2 := hide (k2.heap (heap_alloc2_old w (.cells (zb 32) 23) (.cells #[.int .u8 5] 5)) (by simp))
  have HK2 := hide ((((Kept.refl [] w).alloc (.cells (zb 32) 23)).alloc (.cells #[.int .u8 5] 5)).trans k2 (by simp))
  clear k2
  go_wp2_with (refine wpList_store_row rfl 23 _ _ rfl w.heap.size (brow C) rfl rfl _ (zb 32) (unhide HZ2) (unhide HS2) (by rw [zb_size, brow_size, hcl]) (brow_one _) ?_)
  refine bodyPost_ret (v := .agg (brow C)) ?_ rfl ⟨rfl, (unhide HK2).setRow (by simp) _⟩
  exact results_cell_row rfl _ _ w.heap.size _ (brow C) (0, 0) _ rfl (setRow_heap _ _ _ _ _ _ (unhide HZ2)) Tryd.underlying23 rfl (unhide HS2)

set_option maxRecDepth 100000 in
set_option maxHeartbeats 1000000 in
theorem refNoLog_any (k : Nat) (w : World) (hk : k ≤ 32) :
    Calls Tryd.prog 17 #[.int .i64 k] w fun e w' => e = .returned (.agg (brow (cutL k (hash [])))) ∧ Kept [] w w' := by
  have hcl := cutL_len k (hash []) hk (hash_len _)
  obtain ⟨C, hC⟩ : ∃ C, cutL k (hash []) = C := ⟨_, rfl⟩
  rw [hC] at hcl ⊢
  have HC := hide hC
  clear hC
  have HS2 := hide (by rw [brow_size, hcl]; exact Tryd.size_dig : (Tryd.prog.info? 23).map (·.size) = some (brow C).size)
  go_enter Tryd.func17, Tryd.ntmps17
  go_wp2_with fail
  rw [zb32]
  refine Calls.mono (refCut_any k _ [] _ (Rd.nil _) hk) ?_
  rintro e w2 ⟨rfl, k2⟩
  rw [unhide HC]
  have HZ2 := hide (k2.heap (heap_alloc_new w (.cells (zb 32) 23)) (by simp))
  have HK2 := hide (((Kept.refl [] w).alloc (.cells (zb 32) 23)).trans k2 (by simp))
  clear k2
  go_wp2_with (refine wpList_store_row rfl 23 _ _ rfl w.heap.size (brow C) rfl rfl _ (zb 32) (unhide HZ2) (unhide HS2) (by rw [zb_size, brow_size, hcl]) (brow_one _) ?_)
  refine bodyPost_ret (v := .agg (brow C)) ?_ rfl ⟨rfl, (unhide HK2).setRow (by simp) _⟩
  exact results_cell_row rfl _ _ w.heap.size _ (brow C) (0, 0) _ rfl (setRow_heap _ _ _ _ _ _ (unhide HZ2)) Tryd.underlying23 rfl (unhide HS2)

/-- What Sum answers. -/
def sumD (z : Int) (p : List Nat) : List Nat := if widthB z then cutL z.toNat (hash p) else List.replicate 32 0
def sumE (z : Int) : Nat := if widthB z then 0 else 1
theorem width_le {z : Int} (h : widthB z = true) : 1 ≤ z ∧ z ≤ 32 := by simpa [widthB] using h
theorem sumD_len (z : Int) (p : List Nat) : (sumD z p).length = 32 := by
  unfold sumD
  cases hw : widthB z with
  | false => simp
  | true => have := width_le hw; rw [if_pos rfl]; exact cutL_len _ _ (by omega) (hash_len _)
theorem dsum_all (z : Int) (v : Value) (ps : List (List Nat)) (w : World) (hz : -9223372036854775808 ≤ z ∧ z ≤ 9223372036854775807) (hv : RdL w v ps) (hl : ps.flatten.length ≤ 140737488355328) (hT : Tabs w) :
    Calls Tryd.prog 12 #[.int .i64 z, v] w fun e w' => e = .returned (.tuple #[.agg (brow (sumD z ps.flatten)), .int .i64 (sumE z)]) ∧ Kept [] w w' := by
  unfold sumD sumE
  cases hw : widthB z with
  | false => exact dsum_bad z v w hz hw
  | true => exact dsum_any z v ps w hz hv hl hT hw
theorem nolog_all (z : Int) (w : World) (hz : -9223372036854775808 ≤ z ∧ z ≤ 9223372036854775807) (hT : Tabs w) :
    Calls Tryd.prog 15 #[.int .i64 z] w fun e w' => e = .returned (.tuple #[.agg (brow (sumD z [])), .int .i64 (sumE z)]) ∧ Kept [] w w' := by
  unfold sumD sumE
  cases hw : widthB z with
  | false => exact nolog_bad z w hz hw
  | true => exact nolog_any z w hz hw hT
theorem nomap_all (z : Int) (w : World) (hz : -9223372036854775808 ≤ z ∧ z ≤ 9223372036854775807) (hT : Tabs w) :
    Calls Tryd.prog 16 #[.int .i64 z] w fun e w' => e = .returned (.tuple #[.agg (brow (sumD z [5])), .int .i64 (sumE z)]) ∧ Kept [] w w' := by
  unfold sumD sumE
  cases hw : widthB z with
  | false => exact nomap_bad z w hz hw
  | true => exact nomap_any z w hz hw hT
theorem docSum_all (z : Int) (v : Value) (ps : List (List Nat)) (w : World) (hz : -9223372036854775808 ≤ z ∧ z ≤ 9223372036854775807) (hv : RdL w v ps) (hl : ps.flatten.length ≤ 140737488355328) :
    Calls Tryd.prog 14 #[.int .i64 z, v] w fun e w' => e = .returned (.tuple #[.agg (brow (sumD z ps.flatten)), .int .i64 (sumE z)]) ∧ Kept [] w w' := by
  unfold sumD sumE
  cases hw : widthB z with
  | false => exact docSum_bad z v w hz hw
  | true =>
    have h9 := width_le hw
    obtain ⟨k, rfl⟩ : ∃ k : Nat, z = k := ⟨z.toNat, by omega⟩
    exact docSum_good k v ps w (by omega) hv hl
theorem Tryd.szD {D : List Nat} (h : D.length = 32) : (Tryd.prog.info? 23).map (·.size) = some (brow D).size := by rw [brow_size, h]; exact Tryd.size_dig
theorem zbD {D : List Nat} (h : D.length = 32) : (brow D).size = (zb 32).size := by rw [zb_size, brow_size, h]
/-- A digest in a new cell. -/
theorem cell_new (w : World) (D : List Nat) : ((w.alloc (.cells (zb 32) 23)).setRow w.heap.size (brow D)).heap[w.heap.size]? = some (.cells (brow D) 23 (0, 0)) := setRow_heap _ _ _ _ _ _ (heap_alloc_new _ _)
theorem kept_new {w0 w : World} (k : Kept [] w0 w) (D : List Nat) : Kept [] w0 ((w.alloc (.cells (zb 32) 23)).setRow w.heap.size (brow D)) := (k.alloc _).setRow (Or.inr k.size) _
theorem kept_old (w : World) (D : List Nat) : Kept [] w ((w.alloc (.cells (zb 32) 23)).setRow w.heap.size (brow D)) := kept_new (Kept.refl [] w) D

theorem eq_zero (D : List Nat) (h : D = List.replicate 32 0) (W : World) : (Op.equalIn 10000 23 (.agg (brow D)) (.agg #[.int .u8 0, .int .u8 0, .int .u8 0, .int .u8 0, .int .u8 0, .int .u8 0, .int .u8 0, .int .u8 0, .int .u8 0, .int .u8 0, .int .u8 0, .int .u8 0, .int .u8 0, .int .u8 0, .int .u8 0, .int .u8 0, .int .u8 0, .int .u8 0, .int .u8 0, .int .u8 0, .int .u8 0, .int .u8 0, .int .u8 0, .int .u8 0, .int .u8 0, .int .u8 0, .int .u8 0, .int .u8 0, .int .u8 0, .int .u8 0, .int .u8 0, .int .u8 0])).run Tryd.prog W = .ok true W := by
  subst h
  have := dig_eq W (List.replicate 32 0) (List.replicate 32 0) (by simp) (by simp)
  rw [decide_eq_true rfl] at this
  rw [zb32]
  exact this
theorem dig_same (D : List Nat) (h : D.length = 32) (W : World) : (Op.equalIn 10000 23 (.agg (brow D)) (.agg (brow D))).run Tryd.prog W = .ok true W := by
  have := dig_eq W D D h h
  rw [decide_eq_true rfl] at this
  exact this

set_option maxRecDepth 100000 in
set_option maxHeartbeats 2000000 in
theorem digestSums_walk (z : Int) (v : Value) (ps : List (List Nat)) (w : World) (hz : -9223372036854775808 ≤ z ∧ z ≤ 9223372036854775807) (hv : RdL w v ps) (hl : ps.flatten.length ≤ 1048576) (hn : ps.length ≤ 1048576) (hT : Tabs w) :
    Calls Tryd.prog 4 #[.int .i64 z, v] w fun e w' => e = .returned (.bool true) ∧ Below w.heap.size w w' := by
  have HT := hide hT
  have HV := hide hv
  clear hv hT
  have l1 := sumD_len z ps.flatten
  have l2 := sumD_len z []
  have l3 := sumD_len z [5]
  obtain ⟨D1, hD1⟩ : ∃ D, sumD z ps.flatten = D := ⟨_, rfl⟩
  obtain ⟨D2, hD2⟩ : ∃ D, sumD z [] = D := ⟨_, rfl⟩
  obtain ⟨D3, hD3⟩ : ∃ D, sumD z [5] = D := ⟨_, rfl⟩
  rw [hD1] at l1
  rw [hD2] at l2
  rw [hD3] at l3
  have HD1 := hide hD1
  have HD2 := hide hD2
  have HD3 := hide hD3
  clear hD1 hD2 hD3
  obtain ⟨E, hE⟩ : ∃ E, sumE z = E := ⟨_, rfl⟩
  have HE := hide hE
  clear hE
  go_enter Tryd.func4, Tryd.ntmps4
  go_wp2_with fail
  refine Calls.mono (twinAll_any v ps w (unhide HV) (by omega)) ?_
  rintro e w1 ⟨lv, rfl, r1, k1⟩
  have HK1 := hide k1
  have HR1 := hide r1
  clear k1 r1
  go_wp2_with fail
  refine Calls.mono (dsum_all z _ ps _ hz (unhide HR1) (by omega) ((unhide HT).k (unhide HK1))) ?_
  rintro e w2 ⟨rfl, k2⟩
  rw [unhide HD1, unhide HE]
  have HK2 := hide ((unhide HK1).trans k2 (by simp))
  clear k2 HR1
  have HC2 := hide (cell_new w2 D1)
  have HKC2 := hide (kept_new (unhide HK2) D1)
  go_wp2_with (rw [zb32]; refine wpList_store_row rfl 23 (.tmp 5) _ rfl w2.heap.size (brow D1) rfl rfl _ (zb 32) (heap_alloc_new _ _) (Tryd.szD l1) (by rw [zb_size, brow_size, l1]) (brow_one _) ?_)
  refine Calls.mono (docSum_all z _ ps _ hz ((unhide HV).old (unhide HKC2)) (by omega)) ?_
  rintro e w3 ⟨rfl, k3⟩
  rw [unhide HD1, unhide HE]
  have HC3 := hide (k3.heap (unhide HC2) (by simp))
  have HK3 := hide ((unhide HKC2).trans k3 (by simp))
  clear k3
  have HF3 := hide (cell_new w3 D1)
  have HCF3 := hide ((kept_old w3 D1).heap (unhide HC3) (by simp))
  have HKF3 := hide (kept_new (unhide HK3) D1)
  go_wp2_with (rw [zb32]; refine wpList_store_row rfl 23 (.tmp 7) _ rfl w3.heap.size (brow D1) rfl rfl _ (zb 32) (heap_alloc_new _ _) (Tryd.szD l1) (by rw [zb_size, brow_size, l1]) (brow_one _) ?_)
  refine Calls.mono (nolog_all z _ hz ((unhide HT).k (unhide HKF3))) ?_
  rintro e w4 ⟨rfl, k4⟩
  rw [unhide HD2, unhide HE]
  have HC4 := hide (k4.heap (unhide HCF3) (by simp))
  have HF4 := hide (k4.heap (unhide HF3) (by simp))
  have HK4 := hide ((unhide HKF3).trans k4 (by simp))
  clear k4 HF3 HCF3 HKF3 HC3 HC2
  have HA4 := hide (cell_new w4 D2)
  have HCA4 := hide ((kept_old w4 D2).heap (unhide HC4) (by simp))
  have HFA4 := hide ((kept_old w4 D2).heap (unhide HF4) (by simp))
  have HKA4 := hide (kept_new (unhide HK4) D2)
  go_wp2_with (rw [zb32]; refine wpList_store_row rfl 23 (.tmp 9) _ rfl w4.heap.size (brow D2) rfl rfl _ (zb 32) (heap_alloc_new _ _) (Tryd.szD l2) (by rw [zb_size, brow_size, l2]) (brow_one _) ?_)
  refine Calls.mono (nomap_all z _ hz ((unhide HT).k (unhide HKA4))) ?_
  rintro e w5 ⟨rfl, k5⟩
  rw [unhide HD3, unhide HE]
  have HC5 := hide (k5.heap (unhide HCA4) (by simp))
  have HF5 := hide (k5.heap (unhide HFA4) (by simp))
  have HA5 := hide (k5.heap (unhide HA4) (by simp))
  have HK5 := hide ((unhide HKA4).trans k5 (by simp))
  clear k5 HCA4 HFA4 HKA4 HA4 HC4 HF4
  have HB6 := hide (cell_new w5 D3)
  have HC6 := hide ((kept_old w5 D3).heap (unhide HC5) (by simp))
  have HF6 := hide ((kept_old w5 D3).heap (unhide HF5) (by simp))
  have HA6 := hide ((kept_old w5 D3).heap (unhide HA5) (by simp))
  have HK6 := hide (kept_new (unhide HK5) D3)
  by_cases hw : widthB z = true
  · have hE0 : E = 0 := by rw [← unhide HE]; simp [sumE, hw]
    subst hE0
    go_wp2_with (rw [zb32]; refine wpList_store_row rfl 23 (.tmp 11) _ rfl w5.heap.size (brow D3) rfl rfl _ (zb 32) (heap_alloc_new _ _) (Tryd.szD l3) (by rw [zb_size, brow_size, l3]) (brow_one _) ?_)
    have h9 := width_le hw
    have HD2' := hide (by have := unhide HD2; unfold sumD at this; rw [if_pos hw] at this; exact this : cutL z.toNat (hash []) = D2)
    have HD3' := hide (by have := unhide HD3; unfold sumD at this; rw [if_pos hw] at this; exact this : cutL z.toNat (hash [5]) = D3)
    have hzk : ((z.toNat : Nat) : Int) = z := by omega
    obtain ⟨W, hW⟩ : ∃ W, (w5.alloc (.cells (zb 32) 23)).setRow w5.heap.size (brow D3) = W := ⟨_, rfl⟩
    rw [hW] at HB6 HC6 HF6 HA6 HK6 ⊢
    clear hW
    have hne : ∀ p : Prop, (∀ w', Kept [] W w' → p) = p := fun p => propext ⟨fun h => h W (Kept.refl [] W), fun h _ _ => h⟩
    have HC1 := hide (fun w' (hw' : Kept [] W w') => (dawake_any w' ((unhide HT).k ((unhide HK6).trans hw' (by simp)))).mono (fun e w2 (h2 : _ ∧ _) => (⟨h2.1, hw'.trans h2.2 (by simp)⟩ : _ ∧ Kept [] W w2)))
    have HCL := hide (fun w' (hw' : Kept [] W w') => (refNoLog_any z.toNat w' (by omega)).mono (fun e w2 (h2 : _ ∧ _) => (⟨h2.1, hw'.trans h2.2 (by simp)⟩ : _ ∧ Kept [] W w2)))
    have HCM := hide (fun w' (hw' : Kept [] W w') => (refNoMap_any z.toNat w' (by omega)).mono (fun e w2 (h2 : _ ∧ _) => (⟨h2.1, hw'.trans h2.2 (by simp)⟩ : _ ∧ Kept [] W w2)))
    rw [hzk, unhide HD2'] at HCL
    rw [hzk, unhide HD3'] at HCM
    refine wp_region_keep (by kernel_rfl) (by kernel_rfl) ?_
    go_big_quiet_want
    go_big_quiet_op
    apply Exists.intro
    refine ⟨fun w' hw' => ?_, ?_⟩
    · exact unhide HC1 w' hw'
    go_big_quiet_on
    iterate 13 (go_big_quiet_step (fail))
    refine wpQuiet_row rfl 23 (.tmp 5) rfl w2.heap.size rfl _ (brow D1) (0, 0) _ (fun w' hw' => hw'.heap (unhide HC6) (by simp)) Tryd.underlying23 rfl (Tryd.szD l1) ?_
    simp only [Act.put, List.setIfInBounds_toArray, List.set_cons_succ, List.set_cons_zero]
    refine wpQuiet_row rfl 23 (.tmp 7) rfl w3.heap.size rfl _ (brow D1) (0, 0) _ (fun w' hw' => hw'.heap (unhide HF6) (by simp)) Tryd.underlying23 rfl (Tryd.szD l1) ?_
    simp only [Act.put, List.setIfInBounds_toArray, List.set_cons_succ, List.set_cons_zero]
    refine wpQuiet_val rfl (.bool true) (fun w' _ => run_eql 23 (.tmp 83) (.tmp 84) 23 rfl (brow D1) (brow D1) rfl rfl w' true (by kernel_rfl) (dig_same D1 l1 w')) ?_
    simp only [Act.put, List.setIfInBounds_toArray, List.set_cons_succ, List.set_cons_zero]
    go_big_quiet_step (fail)
    go_big_quiet_step (fail)
    refine wpQuiet_row rfl 23 (.tmp 9) rfl w4.heap.size rfl _ (brow D2) (0, 0) _ (fun w' hw' => hw'.heap (unhide HA6) (by simp)) Tryd.underlying23 rfl (Tryd.szD l2) ?_
    simp only [Act.put, List.setIfInBounds_toArray, List.set_cons_succ, List.set_cons_zero]
    go_big_quiet_step (fail)
    go_big_quiet_want
    go_big_quiet_op
    apply Exists.intro
    refine ⟨fun w' hw' => ?_, ?_⟩
    · exact unhide HCL w' hw'
    go_big_quiet_on
    refine wpQuiet_val rfl (.bool true) (fun w' _ => run_eql 23 (.tmp 88) (.tmp 90) 23 rfl (brow D2) (brow D2) rfl rfl w' true (by kernel_rfl) (dig_same D2 l2 w')) ?_
    simp only [Act.put, List.setIfInBounds_toArray, List.set_cons_succ, List.set_cons_zero]
    go_big_quiet_step (fail)
    go_big_quiet_step (fail)
    refine wpQuiet_row rfl 23 (.tmp 11) rfl w5.heap.size rfl _ (brow D3) (0, 0) _ (fun w' hw' => hw'.heap (unhide HB6) (by simp)) Tryd.underlying23 rfl (Tryd.szD l3) ?_
    simp only [Act.put, List.setIfInBounds_toArray, List.set_cons_succ, List.set_cons_zero]
    go_big_quiet_step (fail)
    go_big_quiet_want
    go_big_quiet_op
    apply Exists.intro
    refine ⟨fun w' hw' => ?_, ?_⟩
    · exact unhide HCM w' hw'
    go_big_quiet_on
    refine wpQuiet_val rfl (.bool true) (fun w' _ => run_eql 23 (.tmp 94) (.tmp 96) 23 rfl (brow D3) (brow D3) rfl rfl w' true (by kernel_rfl) (dig_same D3 l3 w')) ?_
    simp only [Act.put, List.setIfInBounds_toArray, List.set_cons_succ, List.set_cons_zero]
    repeat (go_big_quiet_step (fail))
    refine wpQuiet_nil ?_
    intro w6 hw6
    have HK7 := hide ((unhide HK6).trans hw6 (by simp))
    clear hw6 hne
    go_wp2
    go_ret
    exact ⟨rfl, (unhide HK7).below (Nat.le_refl _) (by simp)⟩
  · have hwf : widthB z = false := by simpa using hw
    have hE1 : E = 1 := by rw [← unhide HE]; simp [sumE, hwf]
    subst hE1
    go_wp2_with (rw [zb32]; refine wpList_store_row rfl 23 (.tmp 11) _ rfl w5.heap.size (brow D3) rfl rfl _ (zb 32) (heap_alloc_new _ _) (Tryd.szD l3) (by rw [zb_size, brow_size, l3]) (brow_one _) ?_)
    have hz1 : ∀ W, (Op.equalIn 10000 23 (.agg (brow D1)) (.agg #[.int .u8 0, .int .u8 0, .int .u8 0, .int .u8 0, .int .u8 0, .int .u8 0, .int .u8 0, .int .u8 0, .int .u8 0, .int .u8 0, .int .u8 0, .int .u8 0, .int .u8 0, .int .u8 0, .int .u8 0, .int .u8 0, .int .u8 0, .int .u8 0, .int .u8 0, .int .u8 0, .int .u8 0, .int .u8 0, .int .u8 0, .int .u8 0, .int .u8 0, .int .u8 0, .int .u8 0, .int .u8 0, .int .u8 0, .int .u8 0, .int .u8 0, .int .u8 0])).run Tryd.prog W = .ok true W := eq_zero D1 (by rw [← unhide HD1]; simp [sumD, hwf])
    have hz2 : ∀ W, (Op.equalIn 10000 23 (.agg (brow D2)) (.agg #[.int .u8 0, .int .u8 0, .int .u8 0, .int .u8 0, .int .u8 0, .int .u8 0, .int .u8 0, .int .u8 0, .int .u8 0, .int .u8 0, .int .u8 0, .int .u8 0, .int .u8 0, .int .u8 0, .int .u8 0, .int .u8 0, .int .u8 0, .int .u8 0, .int .u8 0, .int .u8 0, .int .u8 0, .int .u8 0, .int .u8 0, .int .u8 0, .int .u8 0, .int .u8 0, .int .u8 0, .int .u8 0, .int .u8 0, .int .u8 0, .int .u8 0, .int .u8 0])).run Tryd.prog W = .ok true W := eq_zero D2 (by rw [← unhide HD2]; simp [sumD, hwf])
    have hz3 : ∀ W, (Op.equalIn 10000 23 (.agg (brow D3)) (.agg #[.int .u8 0, .int .u8 0, .int .u8 0, .int .u8 0, .int .u8 0, .int .u8 0, .int .u8 0, .int .u8 0, .int .u8 0, .int .u8 0, .int .u8 0, .int .u8 0, .int .u8 0, .int .u8 0, .int .u8 0, .int .u8 0, .int .u8 0, .int .u8 0, .int .u8 0, .int .u8 0, .int .u8 0, .int .u8 0, .int .u8 0, .int .u8 0, .int .u8 0, .int .u8 0, .int .u8 0, .int .u8 0, .int .u8 0, .int .u8 0, .int .u8 0, .int .u8 0])).run Tryd.prog W = .ok true W := eq_zero D3 (by rw [← unhide HD3]; simp [sumD, hwf])
    refine Calls.mono (dawake_any _ ((unhide HT).k (unhide HK6))) ?_
    rintro e w7 ⟨rfl, k7⟩
    have HC7 := hide (k7.heap (unhide HC6) (by simp))
    have HA7 := hide (k7.heap (unhide HA6) (by simp))
    have HB7 := hide (k7.heap (unhide HB6) (by simp))
    have HK7 := hide ((unhide HK6).trans k7 (by simp))
    clear k7
    go_wp2_with (first
      | (refine wpList_load_rowG rfl 23 (.tmp 5) rfl w2.heap.size rfl _ (brow D1) (0, 0) _ (unhide HC7) Tryd.underlying23 rfl (Tryd.szD l1) ?_)
      | (refine wpList_load_rowG rfl 23 (.tmp 9) rfl w4.heap.size rfl _ (brow D2) (0, 0) _ (unhide HA7) Tryd.underlying23 rfl (Tryd.szD l2) ?_)
      | (refine wpList_load_rowG rfl 23 (.tmp 11) rfl w5.heap.size rfl _ (brow D3) (0, 0) _ (unhide HB7) Tryd.underlying23 rfl (Tryd.szD l3) ?_))
    go_ret
    exact ⟨rfl, (unhide HK7).below (Nat.le_refl _) (by simp)⟩
end Go.Proofs.YtpjemdafbdmpcaaDoor
