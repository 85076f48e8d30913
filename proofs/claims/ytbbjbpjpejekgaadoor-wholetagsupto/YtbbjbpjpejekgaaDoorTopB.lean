import Derived.Test.YtbbjbpjpejekgaaDoorTopA
import Derived.Test.YtbbjbpjpejekgaaDoorLSums3
import Derived.Lib.Strings
import Derived.Lib.Slices
import Derived.Lib.Small
import Derived.Lib.Walk
import Derived.Lib.BitFns
import Derived.Deep.Light
import Derived.Test.YtbbjbpjpejekgaaDoorQKeep
import Derived.Deep.MidRow
namespace Go.Proofs.YtbbjbpjpejekgaaDoor
open Go.RowKit Go.BigFrame
set_option linter.unusedVariables false
set_option linter.unusedSimpArgs false

set_option maxRecDepth 100000 in
set_option maxHeartbeats 1000000 in
theorem leaf_all (z : Int) (v : Value) (p : List Nat) (w : World) (hz : -9223372036854775808 ≤ z ∧ z ≤ 9223372036854775807) (h : Rd w v p) (hl : p.length ≤ 140737488351232) (hT : Tabs w) :
    Calls Tryd.prog 40 #[.int .i64 z, v] w fun e w' => e = .returned (.tuple #[.agg (brow (sumD z (0 :: p))), .int .i64 (sumE z)]) ∧ Kept [] w w' := by
  have H := hide h
  have HT := hide hT
  clear h hT
  have hcl := sumD_len z (0 :: p)
  obtain ⟨B, hB⟩ : ∃ B, 0 :: p = B := ⟨_, rfl⟩
  have HB := hide hB
  rw [hB] at hcl ⊢
  clear hB
  obtain ⟨D, hD⟩ : ∃ D, sumD z B = D := ⟨_, rfl⟩
  have HD := hide hD
  rw [hD] at hcl ⊢
  clear hD
  obtain ⟨E, hE⟩ : ∃ E, sumE z = E := ⟨_, rfl⟩
  have HE := hide hE
  rw [hE]
  clear hE
  go_enter Tryd.func40, Tryd.ntmps40
  go_wp2_with fail
  rw [zb32]
  refine Calls.mono (leafInput_any _ p _ ((unhide H).old ((Kept.refl [] w).alloc _) (by simp)) hl) ?_
  rintro e w1 ⟨v1, rfl, n1, k1⟩
  rw [unhide HB] at n1
  have HR1 := hide n1.1
  obtain ⟨a1, m1, c1, hu1, hm1, _⟩ := id n1.1
  subst hu1
  have HZ1 := hide (k1.heap (heap_alloc_new w (.cells (zb 32) 26)) (by simp))
  have HK1 := hide (((Kept.refl [] w).alloc (.cells (zb 32) 26)).trans k1 (by simp))
  clear n1 k1
  go_wp2_with fail
  refine Calls.mono (dsum_all z _ [B] _ hz (RdL.one (heap_alloc_new _ _) ((unhide HR1).old ((Kept.refl [] w1).alloc _) (by simp))) (by have h9 := (unhide HR1).len; simpa using h9) ((unhide HT).k ((unhide HK1).alloc _))) ?_
  rintro e w2 ⟨rfl, k2⟩
  rw [show ([B] : List (List Nat)).flatten = B by simp, unhide HD, unhide HE]
  have HZ2 := hide (k2.heap ((Kept.refl [] w1).alloc (.cells #[.slice a1 m1 c1] 24) |>.heap (unhide HZ1) (by simp)) (by simp))
  have HK2 := hide (((unhide HK1).alloc _).trans k2 (by simp))
  clear k2
  go_wp2_with (refine wpList_store_row rfl 26 _ _ rfl w.heap.size (brow D) rfl rfl _ (zb 32) (unhide HZ2) (by rw [brow_size, hcl]; exact Tryd.size_dig) (by rw [zb_size, brow_size, hcl]) (brow_one _) ?_)
  refine bodyPost_ret (v := .tuple #[.agg (brow D), .int .i64 E]) ?_ rfl ⟨rfl, (unhide HK2).setRow (by simp) _⟩
  exact results_cell_tmp rfl _ _ w.heap.size _ (brow D) (0, 0) _ rfl (setRow_heap _ _ _ _ _ _ (unhide HZ2)) Tryd.underlying26 rfl (by rw [brow_size, hcl]; exact Tryd.size_dig) _ rfl

set_option maxRecDepth 100000 in
set_option maxHeartbeats 1000000 in
theorem key_all (z : Int) (v : Value) (p : List Nat) (w : World) (hz : -9223372036854775808 ≤ z ∧ z ≤ 9223372036854775807) (h : Rd w v p) (hl : p.length ≤ 140737488351232) (hT : Tabs w) :
    Calls Tryd.prog 42 #[.int .i64 z, v] w fun e w' => e = .returned (.tuple #[.agg (brow (sumD z (2 :: p))), .int .i64 (sumE z)]) ∧ Kept [] w w' := by
  have H := hide h
  have HT := hide hT
  clear h hT
  have hcl := sumD_len z (2 :: p)
  obtain ⟨B, hB⟩ : ∃ B, 2 :: p = B := ⟨_, rfl⟩
  have HB := hide hB
  rw [hB] at hcl ⊢
  clear hB
  obtain ⟨D, hD⟩ : ∃ D, sumD z B = D := ⟨_, rfl⟩
  have HD := hide hD
  rw [hD] at hcl ⊢
  clear hD
  obtain ⟨E, hE⟩ : ∃ E, sumE z = E := ⟨_, rfl⟩
  have HE := hide hE
  rw [hE]
  clear hE
  go_enter Tryd.func42, Tryd.ntmps42
  go_wp2_with fail
  rw [zb32]
  refine Calls.mono (keyInput_any _ p _ ((unhide H).old ((Kept.refl [] w).alloc _) (by simp)) hl) ?_
  rintro e w1 ⟨v1, rfl, n1, k1⟩
  rw [unhide HB] at n1
  have HR1 := hide n1.1
  obtain ⟨a1, m1, c1, hu1, hm1, _⟩ := id n1.1
  subst hu1
  have HZ1 := hide (k1.heap (heap_alloc_new w (.cells (zb 32) 26)) (by simp))
  have HK1 := hide (((Kept.refl [] w).alloc (.cells (zb 32) 26)).trans k1 (by simp))
  clear n1 k1
  go_wp2_with fail
  refine Calls.mono (dsum_all z _ [B] _ hz (RdL.one (heap_alloc_new _ _) ((unhide HR1).old ((Kept.refl [] w1).alloc _) (by simp))) (by have h9 := (unhide HR1).len; simpa using h9) ((unhide HT).k ((unhide HK1).alloc _))) ?_
  rintro e w2 ⟨rfl, k2⟩
  rw [show ([B] : List (List Nat)).flatten = B by simp, unhide HD, unhide HE]
  have HZ2 := hide (k2.heap ((Kept.refl [] w1).alloc (.cells #[.slice a1 m1 c1] 24) |>.heap (unhide HZ1) (by simp)) (by simp))
  have HK2 := hide (((unhide HK1).alloc _).trans k2 (by simp))
  clear k2
  go_wp2_with (refine wpList_store_row rfl 26 _ _ rfl w.heap.size (brow D) rfl rfl _ (zb 32) (unhide HZ2) (by rw [brow_size, hcl]; exact Tryd.size_dig) (by rw [zb_size, brow_size, hcl]) (brow_one _) ?_)
  refine bodyPost_ret (v := .tuple #[.agg (brow D), .int .i64 E]) ?_ rfl ⟨rfl, (unhide HK2).setRow (by simp) _⟩
  exact results_cell_tmp rfl _ _ w.heap.size _ (brow D) (0, 0) _ rfl (setRow_heap _ _ _ _ _ _ (unhide HZ2)) Tryd.underlying26 rfl (by rw [brow_size, hcl]; exact Tryd.size_dig) _ rfl

set_option maxRecDepth 100000 in
set_option maxHeartbeats 1000000 in
theorem bucket_all (z : Int) (v : Value) (ps : List (List Nat × List Nat)) (w : World) (hz : -9223372036854775808 ≤ z ∧ z ≤ 9223372036854775807) (h : RdK w v ps) (hl : (pairB ps).length ≤ 1000000000000) (hT : Tabs w) :
    Calls Tryd.prog 43 #[.int .i64 z, v] w fun e w' => e = .returned (.tuple #[.agg (brow (sumD z (buckB ps))), .int .i64 (sumE z)]) ∧ Kept [] w w' := by
  have H := hide h
  have HT := hide hT
  clear h hT
  have hcl := sumD_len z (buckB ps)
  obtain ⟨B, hB⟩ : ∃ B, buckB ps = B := ⟨_, rfl⟩
  have HB := hide hB
  rw [hB] at hcl ⊢
  clear hB
  obtain ⟨D, hD⟩ : ∃ D, sumD z B = D := ⟨_, rfl⟩
  have HD := hide hD
  rw [hD] at hcl ⊢
  clear hD
  obtain ⟨E, hE⟩ : ∃ E, sumE z = E := ⟨_, rfl⟩
  have HE := hide hE
  rw [hE]
  clear hE
  go_enter Tryd.func43, Tryd.ntmps43
  go_wp2_with fail
  rw [zb32]
  refine Calls.mono (bucketInput_any _ ps _ ((unhide H).old ((Kept.refl [] w).alloc _)) hl) ?_
  rintro e w1 ⟨v1, rfl, n1, k1⟩
  rw [unhide HB] at n1
  have HR1 := hide n1.1
  obtain ⟨a1, m1, c1, hu1, hm1, _⟩ := id n1.1
  subst hu1
  have HZ1 := hide (k1.heap (heap_alloc_new w (.cells (zb 32) 26)) (by simp))
  have HK1 := hide (((Kept.refl [] w).alloc (.cells (zb 32) 26)).trans k1 (by simp))
  clear n1 k1
  go_wp2_with fail
  refine Calls.mono (dsum_all z _ [B] _ hz (RdL.one (heap_alloc_new _ _) ((unhide HR1).old ((Kept.refl [] w1).alloc _) (by simp))) (by have h9 := (unhide HR1).len; simpa using h9) ((unhide HT).k ((unhide HK1).alloc _))) ?_
  rintro e w2 ⟨rfl, k2⟩
  rw [show ([B] : List (List Nat)).flatten = B by simp, unhide HD, unhide HE]
  have HZ2 := hide (k2.heap ((Kept.refl [] w1).alloc (.cells #[.slice a1 m1 c1] 24) |>.heap (unhide HZ1) (by simp)) (by simp))
  have HK2 := hide (((unhide HK1).alloc _).trans k2 (by simp))
  clear k2
  go_wp2_with (refine wpList_store_row rfl 26 _ _ rfl w.heap.size (brow D) rfl rfl _ (zb 32) (unhide HZ2) (by rw [brow_size, hcl]; exact Tryd.size_dig) (by rw [zb_size, brow_size, hcl]) (brow_one _) ?_)
  refine bodyPost_ret (v := .tuple #[.agg (brow D), .int .i64 E]) ?_ rfl ⟨rfl, (unhide HK2).setRow (by simp) _⟩
  exact results_cell_tmp rfl _ _ w.heap.size _ (brow D) (0, 0) _ rfl (setRow_heap _ _ _ _ _ _ (unhide HZ2)) Tryd.underlying26 rfl (by rw [brow_size, hcl]; exact Tryd.size_dig) _ rfl

end Go.Proofs.YtbbjbpjpejekgaaDoor
namespace Go.Proofs.YtbbjbpjpejekgaaDoor
open Go.RowKit Go.BigFrame
set_option linter.unusedVariables false
set_option linter.unusedSimpArgs false

def sunD (e : Nat) (z : Int) (p : List Nat) : List Nat := if e = 0 then sumD z p else List.replicate 32 0
def sunE (e : Nat) (z : Int) : Nat := if e = 0 then sumE z else e
theorem sunD_len (e : Nat) (z : Int) (p : List Nat) : (sunD e z p).length = 32 := by
  unfold sunD; split
  · exact sumD_len _ _
  · simp

set_option maxRecDepth 100000 in
set_option maxHeartbeats 1000000 in
theorem sumUnless_any (f : Nat) (z : Int) (v : Value) (p : List Nat) (w : World) (hz : -9223372036854775808 ≤ z ∧ z ≤ 9223372036854775807) (h : Rd w v p) (hT : Tabs w) :
    Calls Tryd.prog 79 #[.int .i64 f, .int .i64 z, v] w fun e w' => e = .returned (.tuple #[.agg (brow (sunD f z p)), .int .i64 (sunE f z)]) ∧ Kept [] w w' := by
  have H := hide h
  obtain ⟨a0, m0, c0, hu0, hm0, _⟩ := id h
  subst hu0
  subst hm0
  have HT := hide hT
  clear h hT
  have hcl := sunD_len f z p
  obtain ⟨D, hD⟩ : ∃ D, sunD f z p = D := ⟨_, rfl⟩
  have HD := hide hD
  rw [hD] at hcl ⊢
  clear hD
  obtain ⟨E, hE⟩ : ∃ E, sunE f z = E := ⟨_, rfl⟩
  have HE := hide hE
  rw [hE]
  clear hE
  have HL := hide (unhide H).len
  go_enter Tryd.func79, Tryd.ntmps79
  by_cases hf : f = 0
  · have hb : ((f : Int) != 0) = false := by rw [hf]; rfl
    have HD2 := hide (by rw [← unhide HD]; unfold sunD; rw [if_pos hf] : D = sumD z p)
    have HE2 := hide (by rw [← unhide HE]; unfold sunE; rw [if_pos hf] : E = sumE z)
    have HF := hide hf
    clear hf
    go_wp2_with fail
    rw [zb32]
    refine Calls.mono (dsum_all z _ [p] _ hz (RdL.one (alloc_at _ _ _) ((unhide H).old (((Kept.refl [] w).alloc _).alloc _) (by simp))) (by have h9 := unhide HL; simpa using h9) ((unhide HT).k (((Kept.refl [] w).alloc _).alloc _))) ?_
    rintro e w2 ⟨rfl, k2⟩
    rw [show ([p] : List (List Nat)).flatten = p by simp, ← unhide HD2, ← unhide HE2]
    have HZ2 := hide (k2.heap (((Kept.refl [] (w.alloc (.cells (zb 32) 26))).alloc (.cells #[.slice a0 p.length c0] 24)).heap (heap_alloc_new w (.cells (zb 32) 26)) (by simp)) (by simp))
    have HK2 := hide ((((Kept.refl [] w).alloc _).alloc _).trans k2 (by simp))
    clear k2
    go_wp2_with (refine wpList_store_row rfl 26 _ _ rfl w.heap.size (brow D) rfl rfl _ (zb 32) (unhide HZ2) (by rw [brow_size, hcl]; exact Tryd.size_dig) (by rw [zb_size, brow_size, hcl]) (brow_one _) ?_)
    refine bodyPost_ret (v := .tuple #[.agg (brow D), .int .i64 E]) ?_ rfl ⟨rfl, (unhide HK2).setRow (by simp) _⟩
    exact results_cell_tmp rfl _ _ w.heap.size _ (brow D) (0, 0) _ rfl (setRow_heap _ _ _ _ _ _ (unhide HZ2)) Tryd.underlying26 rfl (by rw [brow_size, hcl]; exact Tryd.size_dig) _ rfl
  · have hb : ((f : Int) != 0) = true := by rw [bne_iff_ne]; omega
    have HD2 := hide (by rw [← unhide HD]; unfold sunD; rw [if_neg hf] : D = List.replicate 32 0)
    have HE2 := hide (by rw [← unhide HE]; unfold sunE; rw [if_neg hf] : E = f)
    have HF := hide hf
    clear hf
    go_wp2_with (rw [zb32]; refine wpList_store_row rfl 26 _ _ rfl w.heap.size (zb 32) rfl rfl _ (zb 32) (heap_alloc_new _ _) (by rw [zb_size]; exact Tryd.size_dig) rfl (brow_one _) ?_)
    rw [unhide HD2, unhide HE2]
    refine bodyPost_ret (v := .tuple #[.agg (zb 32), .int .i64 f]) ?_ rfl ⟨rfl, ((Kept.refl [] w).alloc _).setRow (by simp) _⟩
    exact results_cell_tmp rfl _ _ w.heap.size _ (zb 32) (0, 0) _ rfl (setRow_heap _ _ _ _ _ _ (heap_alloc_new _ _)) Tryd.underlying26 rfl (by rw [zb_size]; exact Tryd.size_dig) _ rfl
end Go.Proofs.YtbbjbpjpejekgaaDoor
namespace Go.Proofs.YtbbjbpjpejekgaaDoor
open Go.RowKit Go.BigFrame
set_option linter.unusedVariables false
set_option linter.unusedSimpArgs false

set_option maxRecDepth 100000 in
set_option maxHeartbeats 1000000 in
theorem branch_all (z : Int) (x : Nat) (v : Value) (ds : List (List Nat)) (w : World) (hz : -9223372036854775808 ≤ z ∧ z ≤ 9223372036854775807) (hx : x < 65536) (h : RdD w v ds) (hT : Tabs w) :
    Calls Tryd.prog 44 #[.int .i64 z, .int .u16 x, v] w fun e w' => e = .returned (.tuple #[.agg (brow (sunD (branchE z x ds) z (branchB z x ds))), .int .i64 (sunE (branchE z x ds) z)]) ∧ Kept [] w w' := by
  have HT := hide hT
  clear hT
  have hcl := sunD_len (branchE z x ds) z (branchB z x ds)
  have HX := hide (by unfold sunD; by_cases h9 : branchE z x ds = 0; rw [if_pos h9, if_pos h9, if_pos h9]; rw [if_neg h9, if_neg h9] : sunD (branchE z x ds) z (if branchE z x ds = 0 then branchB z x ds else []) = sunD (branchE z x ds) z (branchB z x ds))
  obtain ⟨f, hf⟩ : ∃ f, branchE z x ds = f := ⟨_, rfl⟩
  have HF := hide hf
  rw [hf] at hcl HX ⊢
  clear hf
  obtain ⟨D, hD⟩ : ∃ D, sunD f z (branchB z x ds) = D := ⟨_, rfl⟩
  have HD := hide hD
  rw [hD] at hcl HX ⊢
  clear hD
  obtain ⟨E, hE⟩ : ∃ E, sunE f z = E := ⟨_, rfl⟩
  have HE := hide hE
  rw [hE]
  clear hE
  go_enter Tryd.func44, Tryd.ntmps44
  go_wp2_with fail
  rw [zb32]
  refine Calls.mono (branchInput_any z x _ ds _ hz hx (h.old ((Kept.refl [] w).alloc _))) ?_
  rintro e w1 ⟨v1, rfl, n1, k1⟩
  rw [unhide HF] at n1 ⊢
  have HR1 := hide n1.1
  obtain ⟨a1, m1, c1, hu1, hm1, _⟩ := id n1.1
  subst hu1
  have HZ1 := hide (k1.heap (heap_alloc_new w (.cells (zb 32) 26)) (by simp))
  have HK1 := hide (((Kept.refl [] w).alloc (.cells (zb 32) 26)).trans k1 (by simp))
  clear n1 k1 hm1
  go_wp2_with fail
  refine Calls.mono (sumUnless_any f z _ _ w1 hz (unhide HR1) ((unhide HT).k (unhide HK1))) ?_
  rintro e w2 ⟨rfl, k2⟩
  rw [unhide HX, unhide HE]
  have HZ2 := hide (k2.heap (unhide HZ1) (by simp))
  have HK2 := hide ((unhide HK1).trans k2 (by simp))
  clear k2
  go_wp2_with (refine wpList_store_row rfl 26 _ _ rfl w.heap.size (brow D) rfl rfl _ (zb 32) (unhide HZ2) (by rw [brow_size, hcl]; exact Tryd.size_dig) (by rw [zb_size, brow_size, hcl]) (brow_one _) ?_)
  refine bodyPost_ret (v := .tuple #[.agg (brow D), .int .i64 E]) ?_ rfl ⟨rfl, (unhide HK2).setRow (by simp) _⟩
  exact results_cell_tmp rfl _ _ w.heap.size _ (brow D) (0, 0) _ rfl (setRow_heap _ _ _ _ _ _ (unhide HZ2)) Tryd.underlying26 rfl (by rw [brow_size, hcl]; exact Tryd.size_dig) _ rfl

end Go.Proofs.YtbbjbpjpejekgaaDoor
namespace Go.Proofs.YtbbjbpjpejekgaaDoor
open Go.RowKit Go.BigFrame
set_option linter.unusedVariables false
set_option linter.unusedSimpArgs false

set_option maxRecDepth 100000 in
set_option maxHeartbeats 1000000 in
theorem node_all (z : Int) (l m : List Nat) (w : World) (hz : -9223372036854775808 ≤ z ∧ z ≤ 9223372036854775807) (hl : l.length = 32) (hm : m.length = 32) (hlb : ∀ x ∈ l, x < 256) (hmb : ∀ x ∈ m, x < 256) (hT : Tabs w) :
    Calls Tryd.prog 41 #[.int .i64 z, .agg (brow l), .agg (brow m)] w fun e w' => e = .returned (.tuple #[.agg (brow (sunD (formedE z [l, m]) z (nodeB z l m))), .int .i64 (sunE (formedE z [l, m]) z)]) ∧ Kept [] w w' := by
  have HT := hide hT
  have HB := hide hlb
  have HB2 := hide hmb
  clear hT hlb hmb
  have hcl := sunD_len (formedE z [l, m]) z (nodeB z l m)
  have HX := hide (by unfold sunD; by_cases h9 : formedE z [l, m] = 0; rw [if_pos h9, if_pos h9, if_pos h9]; rw [if_neg h9, if_neg h9] : sunD (formedE z [l, m]) z (if formedE z [l, m] = 0 then nodeB z l m else []) = sunD (formedE z [l, m]) z (nodeB z l m))
  obtain ⟨f, hf⟩ : ∃ f, formedE z [l, m] = f := ⟨_, rfl⟩
  have HF := hide hf
  rw [hf] at hcl HX ⊢
  clear hf
  obtain ⟨D, hD⟩ : ∃ D, sunD f z (nodeB z l m) = D := ⟨_, rfl⟩
  have HD := hide hD
  rw [hD] at hcl HX ⊢
  clear hD
  obtain ⟨E, hE⟩ : ∃ E, sunE f z = E := ⟨_, rfl⟩
  have HE := hide hE
  rw [hE]
  clear hE
  go_enter Tryd.func41, Tryd.ntmps41
  have HK0 := hide ((((Kept.refl [] w).alloc (.cells (brow l) 26)).alloc (.cells (brow m) 26)).alloc (.cells (zb 32) 26))
  have HGZ := hide (alloc3_at w (.cells (brow l) 26) (.cells (brow m) 26) (.cells (zb 32) 26))
  have HGM := hide (((Kept.refl [] ((w.alloc (.cells (brow l) 26)).alloc (.cells (brow m) 26))).alloc (.cells (zb 32) 26)).heap (alloc_at w (.cells (brow l) 26) (.cells (brow m) 26)) (by simp))
  have HGL := hide ((((Kept.refl [] (w.alloc (.cells (brow l) 26))).alloc (.cells (brow m) 26)).alloc (.cells (zb 32) 26)).heap (heap_alloc_new w (.cells (brow l) 26)) (by simp))
  have HSL := hide (by rw [List.length_map, hl]; exact Tryd.size_dig : (Tryd.prog.info? 26).map (·.size) = some (l.map u8).length)
  have HSM := hide (by rw [List.length_map, hm]; exact Tryd.size_dig : (Tryd.prog.info? 26).map (·.size) = some (m.map u8).length)
  go_wp2_with (first
    | (refine wpList_load_mid rfl 26 _ rfl w.heap.size 0 rfl (l.map u8) _ (range_row (unhide HGL)) Tryd.underlying26 rfl (unhide HSL) ?_)
    | (refine wpList_load_mid rfl 26 _ rfl (w.heap.size + 1) 0 rfl (m.map u8) _ (range_row (unhide HGM)) Tryd.underlying26 rfl (unhide HSM) ?_))
  refine Calls.mono (nodeInput_any z l m _ hz hl hm (unhide HB) (unhide HB2)) ?_
  rintro e w1 ⟨v1, rfl, n1, k1⟩
  rw [unhide HF] at n1 ⊢
  have HR1 := hide n1.1
  obtain ⟨a1, m1, c1, hu1, hm1, _⟩ := id n1.1
  subst hu1
  have HZ1 := hide (k1.heap (unhide HGZ) (by simp))
  have HK1 := hide ((unhide HK0).trans k1 (by simp))
  clear n1 k1 hm1 HGL HGM
  go_wp2_with fail
  refine Calls.mono (sumUnless_any f z _ _ w1 hz (unhide HR1) ((unhide HT).k (unhide HK1))) ?_
  rintro e w2 ⟨rfl, k2⟩
  rw [unhide HX, unhide HE]
  have HZ2 := hide (k2.heap (unhide HZ1) (by simp))
  have HK2 := hide ((unhide HK1).trans k2 (by simp))
  clear k2
  go_wp2_with (refine wpList_store_row rfl 26 _ _ rfl (w.heap.size + 1 + 1) (brow D) rfl rfl _ (zb 32) (unhide HZ2) (by rw [brow_size, hcl]; exact Tryd.size_dig) (by rw [zb_size, brow_size, hcl]) (brow_one _) ?_)
  refine bodyPost_ret (v := .tuple #[.agg (brow D), .int .i64 E]) ?_ rfl ⟨rfl, (unhide HK2).setRow (by simp; omega) _⟩
  exact results_cell_tmp rfl _ _ (w.heap.size + 1 + 1) _ (brow D) (0, 0) _ rfl (setRow_heap _ _ _ _ _ _ (unhide HZ2)) Tryd.underlying26 rfl (by rw [brow_size, hcl]; exact Tryd.size_dig) _ rfl

set_option maxRecDepth 100000 in
set_option maxHeartbeats 1000000 in
theorem root_all (z : Int) (s : Nat) (l m : List Nat) (w : World) (hz : -9223372036854775808 ≤ z ∧ z ≤ 9223372036854775807) (hs : s < 18446744073709551616) (hl : l.length = 32) (hm : m.length = 32) (hlb : ∀ x ∈ l, x < 256) (hmb : ∀ x ∈ m, x < 256) (hT : Tabs w) :
    Calls Tryd.prog 45 #[.int .i64 z, .agg (rootC s l m).toArray] w fun e w' => e = .returned (.tuple #[.agg (brow (sunD (formedE z [l, m]) z (rootB z s l m))), .int .i64 (sunE (formedE z [l, m]) z)]) ∧ Kept [] w w' := by
  have HT := hide hT
  have HB := hide hlb
  have HB2 := hide hmb
  clear hT hlb hmb
  have hcl := sunD_len (formedE z [l, m]) z (rootB z s l m)
  have HX := hide (by unfold sunD; by_cases h9 : formedE z [l, m] = 0; rw [if_pos h9, if_pos h9, if_pos h9]; rw [if_neg h9, if_neg h9] : sunD (formedE z [l, m]) z (if formedE z [l, m] = 0 then rootB z s l m else []) = sunD (formedE z [l, m]) z (rootB z s l m))
  obtain ⟨f, hf⟩ : ∃ f, formedE z [l, m] = f := ⟨_, rfl⟩
  have HF := hide hf
  rw [hf] at hcl HX ⊢
  clear hf
  obtain ⟨D, hD⟩ : ∃ D, sunD f z (rootB z s l m) = D := ⟨_, rfl⟩
  have HD := hide hD
  rw [hD] at hcl HX ⊢
  clear hD
  obtain ⟨E, hE⟩ : ∃ E, sunE f z = E := ⟨_, rfl⟩
  have HE := hide hE
  rw [hE]
  clear hE
  have HSO := hide (by rw [List.size_toArray, show (rootC s l m).length = 65 by simp [rootC, hl, hm]]; kernel_rfl : (Tryd.prog.info? 32).map (·.size) = some (rootC s l m).toArray.size)
  obtain ⟨C, hC⟩ : ∃ C, (rootC s l m).toArray = C := ⟨_, rfl⟩
  have HC := hide hC
  rw [hC] at HSO ⊢
  clear hC
  go_enter Tryd.func45, Tryd.ntmps45
  have HK0 := hide (((Kept.refl [] w).alloc (.cells C 32)).alloc (.cells (zb 32) 26))
  have HGZ := hide (alloc_at w (.cells C 32) (.cells (zb 32) 26))
  have HGL := hide (((Kept.refl [] (w.alloc (.cells C 32))).alloc (.cells (zb 32) 26)).heap (heap_alloc_new w (.cells C 32)) (by simp))
  go_wp2_with (refine wpList_load_row rfl 32 _ rfl w.heap.size rfl _ C (0, 0) _ (unhide HGL) Tryd.underlying32 rfl (unhide HSO) ?_)
  rw [zb32]
  have hri := rootInput_any z s l m ((w.alloc (.cells C 32)).alloc (.cells (zb 32) 26)) hz hs hl hm (unhide HB) (unhide HB2)
  rw [unhide HC] at hri
  refine Calls.mono hri ?_
  clear hri
  rintro e w1 ⟨v1, rfl, n1, k1⟩
  rw [unhide HF] at n1 ⊢
  have HR1 := hide n1.1
  obtain ⟨a1, m1, c1, hu1, hm1, _⟩ := id n1.1
  subst hu1
  have HZ1 := hide (k1.heap (unhide HGZ) (by simp))
  have HK1 := hide ((unhide HK0).trans k1 (by simp))
  clear n1 k1 hm1 HGL
  go_wp2_with fail
  refine Calls.mono (sumUnless_any f z _ _ w1 hz (unhide HR1) ((unhide HT).k (unhide HK1))) ?_
  rintro e w2 ⟨rfl, k2⟩
  rw [unhide HX, unhide HE]
  have HZ2 := hide (k2.heap (unhide HZ1) (by simp))
  have HK2 := hide ((unhide HK1).trans k2 (by simp))
  clear k2
  go_wp2_with (refine wpList_store_row rfl 26 _ _ rfl (w.heap.size + 1) (brow D) rfl rfl _ (zb 32) (unhide HZ2) (by rw [brow_size, hcl]; exact Tryd.size_dig) (by rw [zb_size, brow_size, hcl]) (brow_one _) ?_)
  refine bodyPost_ret (v := .tuple #[.agg (brow D), .int .i64 E]) ?_ rfl ⟨rfl, (unhide HK2).setRow (by simp) _⟩
  exact results_cell_tmp rfl _ _ (w.heap.size + 1) _ (brow D) (0, 0) _ rfl (setRow_heap _ _ _ _ _ _ (unhide HZ2)) Tryd.underlying26 rfl (by rw [brow_size, hcl]; exact Tryd.size_dig) _ rfl

end Go.Proofs.YtbbjbpjpejekgaaDoor
namespace Go.Proofs.YtbbjbpjpejekgaaDoor
open Go.RowKit Go.BigFrame
set_option linter.unusedVariables false
set_option linter.unusedSimpArgs false

def opS (o : OpD) : List Nat := sunD (inE o) o.z (inB o)
def opF (o : OpD) : Nat := sunE (inE o) o.z
theorem opS_len (o : OpD) : (opS o).length = 32 := sunD_len _ _ _

set_option maxRecDepth 100000 in
set_option maxHeartbeats 2000000 in
theorem sum_any (o : OpD) (pv kv dv : Value) (w : World) (h : OkD w o pv kv dv) (hk : 1 ≤ o.kd ∧ o.kd ≤ 6) (hT : Tabs w) :
    Calls Tryd.prog 10 #[.agg (opC o pv kv dv).toArray] w fun e w' => e = .returned (.tuple #[.agg (brow (opS o)), .int .i64 (opF o)]) ∧ Kept [] w w' := by
  have H := hide h
  have HT := hide hT
  clear hT
  obtain ⟨C, hC⟩ : ∃ C, (opC o pv kv dv).toArray = C := ⟨_, rfl⟩
  have HG := hide (heap_alloc_new w (.cells C 34))
  rw [← hC] at HG
  obtain ⟨⟨c0, c1, c2⟩, r3, r35, ⟨c67, c68, c69⟩, r70⟩ := op_cells (unhide HG) h.l.1 h.r.1
  rw [hC] at HG c0 c1 c2 r3 r35 c67 c68 c69 r70 ⊢
  clear hC
  have HK0 := hide (((Kept.refl [] w).alloc (.cells C 34)).alloc (.cells (zb 32) 26))
  have k00 := (Kept.refl [] (w.alloc (.cells C 34))).alloc (.cells (zb 32) 26)
  have HGZ := hide (alloc_at w (.cells C 34) (.cells (zb 32) 26))
  have HH := hide (h.old (unhide HK0))
  have HTT := hide ((unhide HT).k (unhide HK0))
  have R3 := hide (range_kept r3 k00 (by simp))
  have R35 := hide (range_kept r35 k00 (by simp))
  have R70 := hide (range_kept r70 k00 (by simp))
  clear r3 r35 r70 h k00
  have q0 : ∀ ob, ((w.alloc (.cells C 34)).alloc ob).cell? ⟨w.heap.size, 0, none⟩ = some (.int .i64 o.kd) := fun ob => ((Kept.refl [] _).alloc ob).cell c0 (by simp)
  have q1 : ∀ ob, ((w.alloc (.cells C 34)).alloc ob).cell? ⟨w.heap.size, 1, none⟩ = some (.int .i64 o.z) := fun ob => ((Kept.refl [] _).alloc ob).cell c1 (by simp)
  have q2 : ∀ ob, ((w.alloc (.cells C 34)).alloc ob).cell? ⟨w.heap.size, 2, none⟩ = some pv := fun ob => ((Kept.refl [] _).alloc ob).cell c2 (by simp)
  have q67 : ∀ ob, ((w.alloc (.cells C 34)).alloc ob).cell? ⟨w.heap.size, 67, none⟩ = some kv := fun ob => ((Kept.refl [] _).alloc ob).cell c67 (by simp)
  have q68 : ∀ ob, ((w.alloc (.cells C 34)).alloc ob).cell? ⟨w.heap.size, 68, none⟩ = some (.int .u16 (o.x : Int)) := fun ob => ((Kept.refl [] _).alloc ob).cell c68 (by simp)
  have q69 : ∀ ob, ((w.alloc (.cells C 34)).alloc ob).cell? ⟨w.heap.size, 69, none⟩ = some dv := fun ob => ((Kept.refl [] _).alloc ob).cell c69 (by simp)
  clear c0 c1 c2 c67 c68 c69
  have HSL := hide (by rw [List.length_map, (unhide H).l.1]; exact Tryd.size_dig : (Tryd.prog.info? 26).map (·.size) = some (o.l.map u8).length)
  have HSR := hide (by rw [List.length_map, (unhide H).r.1]; exact Tryd.size_dig : (Tryd.prog.info? 26).map (·.size) = some (o.r.map u8).length)
  have HSO := hide (by rw [show (rootC o.s o.lg o.mp).length = 65 by simp [rootC, (unhide H).lg.1, (unhide H).mp.1]]; kernel_rfl : (Tryd.prog.info? 32).map (·.size) = some (rootC o.s o.lg o.mp).length)
  have HZ := hide (unhide H).z
  have hcl := opS_len o
  obtain ⟨D, hD⟩ : ∃ D, opS o = D := ⟨_, rfl⟩
  have HD := hide hD
  rw [hD] at hcl ⊢
  clear hD
  obtain ⟨E, hE⟩ : ∃ E, opF o = E := ⟨_, rfl⟩
  have HE := hide hE
  rw [hE]
  clear hE
  have HF := hide (fun (w1 : World) (k1 : Kept [] ((w.alloc (.cells C 34)).alloc (.cells (zb 32) 26)) w1) => ⟨k1.heap (unhide HGZ) (by simp), (unhide HK0).trans k1 (by simp)⟩ : ∀ w1, Kept [] ((w.alloc (.cells C 34)).alloc (.cells (zb 32) 26)) w1 → w1.heap[w.heap.size + 1]? = some (.cells (zb 32) 26) ∧ Kept [] w w1)
  go_enter Tryd.func10, Tryd.ntmps10
  clear HG HGZ
  rcases (by omega : o.kd = 1 ∨ o.kd = 2 ∨ o.kd = 3 ∨ o.kd = 4 ∨ o.kd = 5 ∨ o.kd = 6) with hkd | hkd | hkd | hkd | hkd | hkd
  · rw [hkd] at q0
    have HE2 := hide (by rw [← unhide HE]; simp [opF, inE, hkd, sunE] : E = sumE o.z)
    have HD2 := hide (by rw [← unhide HD]; simp [opS, inE, inB, hkd, sunD] : D = sumD o.z (0 :: o.p))
    clear hkd hk
    go_wp2_with fail
    rw [zb32]
    refine Calls.mono (leaf_all o.z _ o.p _ (unhide HZ) (unhide HH).p (by have := (unhide H).pl; omega) (unhide HTT)) ?_
    rintro e w1 ⟨rfl, k1⟩
    rw [← unhide HD2, ← unhide HE2]
    have HZ2 := hide (unhide HF w1 k1).1
    have HK2 := hide (unhide HF w1 k1).2
    clear k1
    go_wp2_with (refine wpList_store_row rfl 26 _ _ rfl (w.heap.size + 1) (brow D) rfl rfl _ (zb 32) (unhide HZ2) (by rw [brow_size, hcl]; exact Tryd.size_dig) (by rw [zb_size, brow_size, hcl]) (brow_one _) ?_)
    refine bodyPost_ret (v := .tuple #[.agg (brow D), .int .i64 E]) ?_ rfl ⟨rfl, (unhide HK2).setRow (by simp) _⟩
    exact results_cell_tmp rfl _ _ (w.heap.size + 1) _ (brow D) (0, 0) _ rfl (setRow_heap _ _ _ _ _ _ (unhide HZ2)) Tryd.underlying26 rfl (by rw [brow_size, hcl]; exact Tryd.size_dig) _ rfl
  · rw [hkd] at q0
    have HE2 := hide (by rw [← unhide HE]; simp [opF, inE, hkd] : E = sunE (formedE o.z [o.l, o.r]) o.z)
    have HD2 := hide (by rw [← unhide HD]; simp [opS, inE, inB, hkd] : D = sunD (formedE o.z [o.l, o.r]) o.z (nodeB o.z o.l o.r))
    clear hkd hk
    go_wp2_with (first
      | (refine wpList_load_mid rfl 26 _ rfl w.heap.size 3 rfl (o.l.map u8) _ (unhide R3) Tryd.underlying26 rfl (unhide HSL) ?_)
      | (refine wpList_load_mid rfl 26 _ rfl w.heap.size 35 rfl (o.r.map u8) _ (unhide R35) Tryd.underlying26 rfl (unhide HSR) ?_))
    refine Calls.mono (node_all o.z o.l o.r _ (unhide HZ) (unhide H).l.1 (unhide H).r.1 (unhide H).l.2 (unhide H).r.2 (unhide HTT)) ?_
    rintro e w1 ⟨rfl, k1⟩
    rw [← unhide HD2, ← unhide HE2]
    have HZ2 := hide (unhide HF w1 k1).1
    have HK2 := hide (unhide HF w1 k1).2
    clear k1
    go_wp2_with (refine wpList_store_row rfl 26 _ _ rfl (w.heap.size + 1) (brow D) rfl rfl _ (zb 32) (unhide HZ2) (by rw [brow_size, hcl]; exact Tryd.size_dig) (by rw [zb_size, brow_size, hcl]) (brow_one _) ?_)
    refine bodyPost_ret (v := .tuple #[.agg (brow D), .int .i64 E]) ?_ rfl ⟨rfl, (unhide HK2).setRow (by simp) _⟩
    exact results_cell_tmp rfl _ _ (w.heap.size + 1) _ (brow D) (0, 0) _ rfl (setRow_heap _ _ _ _ _ _ (unhide HZ2)) Tryd.underlying26 rfl (by rw [brow_size, hcl]; exact Tryd.size_dig) _ rfl
  · rw [hkd] at q0
    have HE2 := hide (by rw [← unhide HE]; simp [opF, inE, hkd, sunE] : E = sumE o.z)
    have HD2 := hide (by rw [← unhide HD]; simp [opS, inE, inB, hkd, sunD] : D = sumD o.z (2 :: o.p))
    clear hkd hk
    go_wp2_with fail
    rw [zb32]
    refine Calls.mono (key_all o.z _ o.p _ (unhide HZ) (unhide HH).p (by have := (unhide H).pl; omega) (unhide HTT)) ?_
    rintro e w1 ⟨rfl, k1⟩
    rw [← unhide HD2, ← unhide HE2]
    have HZ2 := hide (unhide HF w1 k1).1
    have HK2 := hide (unhide HF w1 k1).2
    clear k1
    go_wp2_with (refine wpList_store_row rfl 26 _ _ rfl (w.heap.size + 1) (brow D) rfl rfl _ (zb 32) (unhide HZ2) (by rw [brow_size, hcl]; exact Tryd.size_dig) (by rw [zb_size, brow_size, hcl]) (brow_one _) ?_)
    refine bodyPost_ret (v := .tuple #[.agg (brow D), .int .i64 E]) ?_ rfl ⟨rfl, (unhide HK2).setRow (by simp) _⟩
    exact results_cell_tmp rfl _ _ (w.heap.size + 1) _ (brow D) (0, 0) _ rfl (setRow_heap _ _ _ _ _ _ (unhide HZ2)) Tryd.underlying26 rfl (by rw [brow_size, hcl]; exact Tryd.size_dig) _ rfl
  · rw [hkd] at q0
    have HE2 := hide (by rw [← unhide HE]; simp [opF, inE, hkd, sunE] : E = sumE o.z)
    have HD2 := hide (by rw [← unhide HD]; simp [opS, inE, inB, hkd, sunD] : D = sumD o.z (buckB o.ps))
    clear hkd hk
    go_wp2_with fail
    rw [zb32]
    refine Calls.mono (bucket_all o.z _ o.ps _ (unhide HZ) (unhide HH).ps (unhide H).psl (unhide HTT)) ?_
    rintro e w1 ⟨rfl, k1⟩
    rw [← unhide HD2, ← unhide HE2]
    have HZ2 := hide (unhide HF w1 k1).1
    have HK2 := hide (unhide HF w1 k1).2
    clear k1
    go_wp2_with (refine wpList_store_row rfl 26 _ _ rfl (w.heap.size + 1) (brow D) rfl rfl _ (zb 32) (unhide HZ2) (by rw [brow_size, hcl]; exact Tryd.size_dig) (by rw [zb_size, brow_size, hcl]) (brow_one _) ?_)
    refine bodyPost_ret (v := .tuple #[.agg (brow D), .int .i64 E]) ?_ rfl ⟨rfl, (unhide HK2).setRow (by simp) _⟩
    exact results_cell_tmp rfl _ _ (w.heap.size + 1) _ (brow D) (0, 0) _ rfl (setRow_heap _ _ _ _ _ _ (unhide HZ2)) Tryd.underlying26 rfl (by rw [brow_size, hcl]; exact Tryd.size_dig) _ rfl
  · rw [hkd] at q0
    have HE2 := hide (by rw [← unhide HE]; simp [opF, inE, hkd] : E = sunE (branchE o.z o.x o.ds) o.z)
    have HD2 := hide (by rw [← unhide HD]; simp [opS, inE, inB, hkd] : D = sunD (branchE o.z o.x o.ds) o.z (branchB o.z o.x o.ds))
    clear hkd hk
    go_wp2_with fail
    rw [zb32]
    refine Calls.mono (branch_all o.z o.x _ o.ds _ (unhide HZ) (unhide H).x (unhide HH).ds (unhide HTT)) ?_
    rintro e w1 ⟨rfl, k1⟩
    rw [← unhide HD2, ← unhide HE2]
    have HZ2 := hide (unhide HF w1 k1).1
    have HK2 := hide (unhide HF w1 k1).2
    clear k1
    go_wp2_with (refine wpList_store_row rfl 26 _ _ rfl (w.heap.size + 1) (brow D) rfl rfl _ (zb 32) (unhide HZ2) (by rw [brow_size, hcl]; exact Tryd.size_dig) (by rw [zb_size, brow_size, hcl]) (brow_one _) ?_)
    refine bodyPost_ret (v := .tuple #[.agg (brow D), .int .i64 E]) ?_ rfl ⟨rfl, (unhide HK2).setRow (by simp) _⟩
    exact results_cell_tmp rfl _ _ (w.heap.size + 1) _ (brow D) (0, 0) _ rfl (setRow_heap _ _ _ _ _ _ (unhide HZ2)) Tryd.underlying26 rfl (by rw [brow_size, hcl]; exact Tryd.size_dig) _ rfl
  · rw [hkd] at q0
    have HE2 := hide (by rw [← unhide HE]; simp [opF, inE, hkd] : E = sunE (formedE o.z [o.lg, o.mp]) o.z)
    have HD2 := hide (by rw [← unhide HD]; simp [opS, inE, inB, hkd] : D = sunD (formedE o.z [o.lg, o.mp]) o.z (rootB o.z o.s o.lg o.mp))
    clear hkd hk
    go_wp2_with (refine wpList_load_mid rfl 32 _ rfl w.heap.size 70 rfl (rootC o.s o.lg o.mp) _ (unhide R70) Tryd.underlying32 rfl (unhide HSO) ?_)
    refine Calls.mono (root_all o.z o.s o.lg o.mp _ (unhide HZ) (unhide H).s (unhide H).lg.1 (unhide H).mp.1 (unhide H).lg.2 (unhide H).mp.2 (unhide HTT)) ?_
    rintro e w1 ⟨rfl, k1⟩
    rw [← unhide HD2, ← unhide HE2]
    have HZ2 := hide (unhide HF w1 k1).1
    have HK2 := hide (unhide HF w1 k1).2
    clear k1
    go_wp2_with (refine wpList_store_row rfl 26 _ _ rfl (w.heap.size + 1) (brow D) rfl rfl _ (zb 32) (unhide HZ2) (by rw [brow_size, hcl]; exact Tryd.size_dig) (by rw [zb_size, brow_size, hcl]) (brow_one _) ?_)
    refine bodyPost_ret (v := .tuple #[.agg (brow D), .int .i64 E]) ?_ rfl ⟨rfl, (unhide HK2).setRow (by simp) _⟩
    exact results_cell_tmp rfl _ _ (w.heap.size + 1) _ (brow D) (0, 0) _ rfl (setRow_heap _ _ _ _ _ _ (unhide HZ2)) Tryd.underlying26 rfl (by rw [brow_size, hcl]; exact Tryd.size_dig) _ rfl
end Go.Proofs.YtbbjbpjpejekgaaDoor
namespace Go.Proofs.YtbbjbpjpejekgaaDoor
open Go.RowKit Go.BigFrame
set_option linter.unusedVariables false
set_option linter.unusedSimpArgs false

def zop : Array Value := (opC ⟨0, 0, [], List.replicate 32 0, List.replicate 32 0, [], 0, [], 0, List.replicate 32 0, List.replicate 32 0⟩ (.slice none 0 0) (.slice none 0 0) (.slice none 0 0)).toArray
theorem Tryd.zero_op : (Tryd.prog.info? 34).map (fun i => (i.zero, i.size)) = some (some (.agg zop), 135) := by kernel_rfl
theorem zero_op (W : World) : (zeroValue 34).run Tryd.prog W = .ok (.agg zop) W := (zero_of_info Tryd.zero_op).1 W
theorem Tryd.size_op : (Tryd.prog.info? 34).map (·.size) = some 135 := by kernel_rfl
theorem zop_size : zop.size = 135 := by unfold zop; rfl
theorem opC_len {o : OpD} {pv kv dv : Value} (h1 : o.l.length = 32) (h2 : o.r.length = 32) (h3 : o.lg.length = 32) (h4 : o.mp.length = 32) : (opC o pv kv dv).length = 135 := by
  simp [opC, rootC, h1, h2, h3, h4]
theorem opC_one {o : OpD} {pv kv dv : Value} {w : World} (h : OkD w o pv kv dv) : (opC o pv kv dv).toArray.all (·.oneCell') = true := by
  obtain ⟨a1, n1, c1, rfl, _⟩ := h.p
  obtain ⟨a2, n2, c2, _, _, rfl, _⟩ := h.ps
  obtain ⟨a3, n3, c3, rfl, _⟩ := h.ds
  rw [Array.all_eq_true_iff_forall_mem]
  intro v hv
  simp [opC, rootC] at hv
  rcases hv with rfl | rfl | rfl | ⟨x, _, rfl⟩ | ⟨x, _, rfl⟩ | rfl | rfl | rfl | rfl | ⟨x, _, rfl⟩ | ⟨x, _, rfl⟩ <;> rfl

/-- The slice value v reads as these Ops. -/
def RdO (w : World) (v : Value) (os : List OpD) : Prop :=
  ∃ (ao : Option Addr) (len cap : Nat) (pv kv dv : Nat → Value), v = .slice ao len cap ∧ os.length = len ∧ len ≤ cap ∧ cap ≤ 9223372036854775807 ∧ (∀ i (h : i < os.length), OkD w os[i] (pv i) (kv i) (dv i)) ∧
    (0 < len → ∃ b off, ao = some ⟨b, off, none⟩ ∧ ∀ i (h : i < os.length), w.rangeAt b (off + i * 135) (opC os[i] (pv i) (kv i) (dv i)))

set_option maxRecDepth 100000 in
set_option maxHeartbeats 1000000 in
theorem known_any (o : OpD) (pv kv dv : Value) (w : World) (h : OkD w o pv kv dv) :
    Calls Tryd.prog 6 #[.agg (opC o pv kv dv).toArray] w fun e w' => e = .returned (.bool (decide (1 ≤ o.kd ∧ o.kd ≤ 6))) ∧ Kept [] w w' := by
  have HG := hide (heap_alloc_new w (.cells (opC o pv kv dv).toArray 34))
  obtain ⟨⟨c0, c1, c2⟩, r3, r35, ⟨c67, c68, c69⟩, r70⟩ := op_cells (unhide HG) h.l.1 h.r.1
  have HK0 := hide ((Kept.refl [] w).alloc (.cells (opC o pv kv dv).toArray 34))
  clear r3 r35 r70 c1 c2 c67 c68 c69 HG h
  obtain ⟨K, hK⟩ : ∃ K, decide (1 ≤ o.kd ∧ o.kd ≤ 6) = K := ⟨_, rfl⟩
  rw [hK]
  have HKK := hide hK
  clear hK
  go_enter Tryd.func6, Tryd.ntmps6
  by_cases h1 : 1 ≤ o.kd
  · by_cases h2 : o.kd ≤ 6
    · have HD := hide (by rw [← unhide HKK]; simp [h1, h2] : K = true)
      go_wp2
      go_ret
      exact ⟨by rw [unhide HD]; rfl, unhide HK0⟩
    · have HD := hide (by rw [← unhide HKK]; simp [h1, h2] : K = false)
      go_wp2
      go_ret
      exact ⟨by rw [unhide HD]; rfl, unhide HK0⟩
  · have HD := hide (by rw [← unhide HKK]; simp [h1] : K = false)
    go_wp2
    go_ret
    exact ⟨by rw [unhide HD]; rfl, unhide HK0⟩

end Go.Proofs.YtbbjbpjpejekgaaDoor
namespace Go.Proofs.YtbbjbpjpejekgaaDoor
open Go.RowKit Go.BigFrame
set_option linter.unusedVariables false
set_option linter.unusedSimpArgs false

theorem inE_wide (o : OpD) (h : widthB o.z = false) : opF o = 1 := by
  unfold opF sunE
  by_cases h0 : inE o = 0
  · rw [if_pos h0]; simp [sumE, h]
  · rw [if_neg h0]
    unfold inE at h0 ⊢
    by_cases h2 : o.kd = 2
    · rw [if_pos h2]; simp [formedE, h]
    · rw [if_neg h2] at h0 ⊢
      by_cases h5 : o.kd = 5
      · rw [if_pos h5]; simp [branchE, formedE, h]
      · rw [if_neg h5] at h0 ⊢
        by_cases h1 : o.kd = 1 ∨ o.kd = 3 ∨ o.kd = 4
        · rw [if_pos h1] at h0; exact absurd rfl h0
        · rw [if_neg h1]; simp [formedE, h]
theorem opS_bad (o : OpD) (h : opF o ≠ 0) : opS o = List.replicate 32 0 := by
  unfold opF sunE at h
  unfold opS sunD
  by_cases h0 : inE o = 0
  · rw [if_pos h0] at h ⊢
    cases hw : widthB o.z with
    | false => simp [sumD, hw]
    | true => simp [sumE, hw] at h
  · rw [if_neg h0]
theorem opF_wide (o : OpD) (h : widthB o.z = true) : opF o = inE o := by
  unfold opF sunE
  by_cases h0 : inE o = 0
  · rw [if_pos h0, h0]; simp [sumE, h]
  · rw [if_neg h0]

set_option maxRecDepth 100000 in
set_option maxHeartbeats 2000000 in
theorem docSumOp_any (o : OpD) (pv kv dv : Value) (w : World) (h : OkD w o pv kv dv) (hk : 1 ≤ o.kd ∧ o.kd ≤ 6) :
    Calls Tryd.prog 11 #[.agg (opC o pv kv dv).toArray] w fun e w' => e = .returned (.tuple #[.agg (brow (opS o)), .int .i64 (opF o)]) ∧ Kept [] w w' := by
  have H := hide h
  have hcl := opS_len o
  have HSA := hide (by rw [List.size_toArray, opC_len h.l.1 h.r.1 h.lg.1 h.mp.1]; exact Tryd.size_op : (Tryd.prog.info? 34).map (·.size) = some (opC o pv kv dv).toArray.size)
  obtain ⟨C, hC⟩ : ∃ C, (opC o pv kv dv).toArray = C := ⟨_, rfl⟩
  have HG := hide (heap_alloc_new w (.cells C 34))
  rw [← hC] at HG
  obtain ⟨⟨_, c1, _⟩, _⟩ := op_cells (unhide HG) h.l.1 h.r.1
  have HC := hide hC
  rw [hC] at HG HSA c1 ⊢
  clear hC
  have HK0 := hide (((Kept.refl [] w).alloc (.cells C 34)).alloc (.cells (zb 32) 26))
  have HGC := hide (((Kept.refl [] (w.alloc (.cells C 34))).alloc (.cells (zb 32) 26)).heap (unhide HG) (by simp))
  have HGZ := hide (alloc_at w (.cells C 34) (.cells (zb 32) 26))
  have HC1 := hide (((Kept.refl [] (w.alloc (.cells C 34))).alloc (.cells (zb 32) 26)).cell c1 (by simp))
  have q1 : ∀ ob, ((w.alloc (.cells C 34)).alloc ob).cell? ⟨w.heap.size, 1, none⟩ = some (.int .i64 o.z) := fun ob => ((Kept.refl [] _).alloc ob).cell c1 (by simp)
  have HH := hide (h.old (unhide HK0))
  clear h c1
  have HZ := hide (unhide H).z
  obtain ⟨D, hD⟩ : ∃ D, opS o = D := ⟨_, rfl⟩
  have HD := hide hD
  rw [hD] at hcl ⊢
  clear hD
  obtain ⟨E, hE⟩ : ∃ E, opF o = E := ⟨_, rfl⟩
  have HE := hide hE
  rw [hE]
  clear hE
  go_enter Tryd.func11, Tryd.ntmps11
  clear HG
  go_wp2_with (refine wpList_load_row rfl 34 _ rfl w.heap.size rfl _ C (0, 0) _ (unhide HGC) Tryd.underlying34 rfl (unhide HSA) ?_)
  have hdc := doc_any o pv kv dv ((w.alloc (.cells C 34)).alloc (.cells (zb 32) 26)) (unhide HH) hk
  rw [unhide HC] at hdc
  refine Calls.mono hdc ?_
  rintro e w1 ⟨v1, rfl, r1, k1⟩
  clear hdc
  have d1 := k1.cell (unhide HC1) (by simp)
  have HZ1 := hide (k1.heap (unhide HGZ) (by simp))
  have HK1 := hide ((unhide HK0).trans k1 (by simp))
  have HR1 := hide r1
  obtain ⟨a1, m1, cc1, hu1, hm1, _⟩ := id r1
  subst hu1
  clear r1 k1 hm1 HGC HGZ HC1
  obtain ⟨I, hI⟩ : ∃ I, inE o = I := ⟨_, rfl⟩
  have HI := hide hI
  rw [hI] at HR1 ⊢
  clear hI
  go_wp2_with fail
  refine Calls.mono (rwidth_any o.z _ (unhide HZ)) ?_
  rintro e w2 ⟨rfl, rfl⟩
  cases hw : widthB o.z with
  | false =>
    have HE2 := hide (by rw [← unhide HE]; exact inE_wide o hw : E = 1)
    have HD2 := hide (by rw [← unhide HD]; exact opS_bad o (by rw [inE_wide o hw]; decide) : D = List.replicate 32 0)
    go_wp2_with (refine wpList_store_row rfl 26 _ _ rfl (w.heap.size + 1) (zb 32) rfl rfl _ (zb 32) (unhide HZ1) (by rw [zb_size]; exact Tryd.size_dig) rfl (brow_one _) ?_)
    rw [unhide HD2, unhide HE2]
    refine bodyPost_ret (v := .tuple #[.agg (zb 32), .int .i64 1]) ?_ rfl ⟨rfl, (unhide HK1).setRow (by simp) _⟩
    exact results_cell_tmp rfl _ _ (w.heap.size + 1) _ (zb 32) (0, 0) _ rfl (setRow_heap _ _ _ _ _ _ (unhide HZ1)) Tryd.underlying26 rfl (by rw [zb_size]; exact Tryd.size_dig) _ rfl
  | true =>
    have HEI := hide (by rw [← unhide HE, ← unhide HI]; exact opF_wide o hw : E = I)
    have hwd := width_le hw
    by_cases hi : I = 0
    · have hb : ((I : Int) != 0) = false := by rw [hi]; rfl
      have HD2 := hide (by rw [← unhide HD]; unfold opS sunD; rw [unhide HI, if_pos hi]; simp [sumD, hw] : D = cutL o.z.toNat (hash (inB o)))
      have HI0 := hide hi
      rw [if_pos hi] at HR1
      clear hi
      have hz9 : ((o.z.toNat : Nat) : Int) = o.z := Int.toNat_of_nonneg (by omega)
      have HZ9 := hide hz9
      clear hz9
      go_wp2_with fail
      have hc := refCut_any o.z.toNat _ _ _ (unhide HR1) (by omega)
      rw [unhide HZ9] at hc
      refine Calls.mono hc ?_
      rintro e w3 ⟨rfl, k3⟩
      rw [← unhide HD2]
      have HZ3 := hide (k3.heap (unhide HZ1) (by simp))
      have HK3 := hide ((unhide HK1).trans k3 (by simp))
      clear k3 hc
      go_wp2_with (refine wpList_store_row rfl 26 _ _ rfl (w.heap.size + 1) (brow D) rfl rfl _ (zb 32) (unhide HZ3) (by rw [brow_size, hcl]; exact Tryd.size_dig) (by rw [zb_size, brow_size, hcl]) (brow_one _) ?_)
      rw [unhide HEI, unhide HI0]
      refine bodyPost_ret (v := .tuple #[.agg (brow D), .int .i64 0]) ?_ rfl ⟨rfl, (unhide HK3).setRow (by simp) _⟩
      exact results_cell_tmp rfl _ _ (w.heap.size + 1) _ (brow D) (0, 0) _ rfl (setRow_heap _ _ _ _ _ _ (unhide HZ3)) Tryd.underlying26 rfl (by rw [brow_size, hcl]; exact Tryd.size_dig) _ rfl
    · have hb : ((I : Int) != 0) = true := by rw [bne_iff_ne]; omega
      have HD2 := hide (by rw [← unhide HD]; exact opS_bad o (by rw [unhide HE, unhide HEI]; exact hi) : D = List.replicate 32 0)
      have HI0 := hide hi
      clear hi
      go_wp2_with (refine wpList_store_row rfl 26 _ _ rfl (w.heap.size + 1) (zb 32) rfl rfl _ (zb 32) (unhide HZ1) (by rw [zb_size]; exact Tryd.size_dig) rfl (brow_one _) ?_)
      rw [unhide HD2, unhide HEI]
      refine bodyPost_ret (v := .tuple #[.agg (zb 32), .int .i64 I]) ?_ rfl ⟨rfl, (unhide HK1).setRow (by simp) _⟩
      exact results_cell_tmp rfl _ _ (w.heap.size + 1) _ (zb 32) (0, 0) _ rfl (setRow_heap _ _ _ _ _ _ (unhide HZ1)) Tryd.underlying26 rfl (by rw [zb_size]; exact Tryd.size_dig) _ rfl
end Go.Proofs.YtbbjbpjpejekgaaDoor
namespace Go.Proofs.YtbbjbpjpejekgaaDoor
open Go.RowKit Go.BigFrame
set_option linter.unusedVariables false
set_option linter.unusedSimpArgs false

theorem RdD.digs {w : World} {v : Value} {ds : List (List Nat)} (h : RdD w v ds) : ∀ d ∈ ds, d.length = 32 ∧ ∀ x ∈ d, x < 256 := by
  obtain ⟨_, _, _, _, _, _, _, h4, _⟩ := h; exact h4
theorem uv_pre : ∀ (a b : Nat) (x y : List Nat), uv a ++ x = uv b ++ y → a = b ∧ x = y := by
  intro a
  induction a using Nat.strongRecOn with
  | _ a ih =>
    intro b x y h
    by_cases ha : a < 128
    · by_cases hb : b < 128
      · rw [uv_lt ha, uv_lt hb] at h
        simpa using h
      · rw [uv_lt ha, uv_ge (by omega : 128 ≤ b)] at h
        simp at h
        omega
    · by_cases hb : b < 128
      · rw [uv_ge (by omega : 128 ≤ a), uv_lt hb] at h
        simp at h
        omega
      · rw [uv_ge (by omega : 128 ≤ a), uv_ge (by omega : 128 ≤ b)] at h
        simp only [List.cons_append, List.cons.injEq] at h
        obtain ⟨h1, h2⟩ := h
        obtain ⟨h3, h4⟩ := ih (a / 128) (by omega) (b / 128) x y h2
        exact ⟨by omega, h4⟩
theorem blob_pre (p q x y : List Nat) (h : uv p.length ++ (p ++ x) = uv q.length ++ (q ++ y)) : p = q ∧ x = y := by
  obtain ⟨h1, h2⟩ := uv_pre _ _ _ _ h
  exact List.append_inj h2 h1
theorem pairB_inj : ∀ (ps qs : List (List Nat × List Nat)), ps.length = qs.length → pairB ps = pairB qs → ps = qs := by
  intro ps
  induction ps with
  | nil => intro qs hl _; exact (List.eq_nil_of_length_eq_zero hl.symm).symm
  | cons a ps ih =>
    intro qs hl h
    cases qs with
    | nil => simp at hl
    | cons b qs =>
      have e : ∀ (c : List Nat × List Nat) cs, pairB (c :: cs) = uv c.1.length ++ (c.1 ++ (uv c.2.length ++ (c.2 ++ pairB cs))) := by
        intro c cs; simp [pairB]
      rw [e, e] at h
      obtain ⟨h1, h2⟩ := blob_pre _ _ _ _ h
      obtain ⟨h3, h4⟩ := blob_pre _ _ _ _ h2
      rw [ih qs (by simpa using hl) h4, Prod.ext h1 h3]
theorem buckB_inj (ps qs : List (List Nat × List Nat)) : buckB ps = buckB qs ↔ ps = qs := by
  constructor
  · intro h
    unfold buckB at h
    simp only [List.cons.injEq, true_and] at h
    obtain ⟨h1, h2⟩ := uv_pre _ _ _ _ h
    exact pairB_inj _ _ h1 h2
  · rintro rfl; rfl
theorem wideInj (n : Nat) : ∀ A B, A / 256 ^ n = B / 256 ^ n → wide A n = wide B n → A = B := by
  induction n with
  | zero => intro A B h _; simpa using h
  | succ n ih =>
    intro A B h hw
    simp only [wide, List.cons.injEq] at hw
    refine ih A B ?_ hw.2
    rw [Nat.pow_succ, ← Nat.div_div_eq_div_mul, ← Nat.div_div_eq_div_mul] at h
    have := hw.1
    omega
theorem form_take {z : Int} {l m : List Nat} (hl : formB z l = true) (hm : formB z m = true) (h : l.take z.toNat = m.take z.toNat) : l = m := by
  unfold formB at hl hm
  simp only [Bool.and_eq_true, decide_eq_true_eq] at hl hm
  rw [← hl.2, ← hm.2]
  unfold cutL
  rw [h]
theorem formedE_zero {z : Int} {ds : List (List Nat)} (h : formedE z ds = 0) : widthB z = true ∧ ∀ d ∈ ds, formB z d = true := by
  unfold formedE at h
  cases hw : widthB z with
  | false => rw [hw] at h; simp at h
  | true =>
    rw [hw] at h
    simp only [reduceIte, Bool.true_eq_false] at h
    by_cases ha : ds.all (formB z) = true
    · exact ⟨rfl, fun d hd => List.all_eq_true.1 ha d hd⟩
    · rw [if_neg ha] at h; omega
theorem two_takes {k : Nat} {l m l' m' : List Nat} (h1 : l.length = 32) (h2 : m.length = 32) (h3 : l'.length = 32) (h4 : m'.length = 32) (h : l.take k ++ m.take k = l'.take k ++ m'.take k) : l.take k = l'.take k ∧ m.take k = m'.take k :=
  List.append_inj h (by simp [h1, h3])
theorem kidsB_inj {z : Int} : ∀ (ds es : List (List Nat)), ds.length = es.length → (∀ d ∈ ds, d.length = 32) → (∀ d ∈ es, d.length = 32) → (∀ d ∈ ds, formB z d = true) → (∀ d ∈ es, formB z d = true) → kidsB z.toNat ds = kidsB z.toNat es → ds = es := by
  intro ds
  induction ds with
  | nil => intro es hl _ _ _ _ _; exact (List.eq_nil_of_length_eq_zero hl.symm).symm
  | cons a ds ih =>
    intro es hl l1 l2 f1 f2 h
    cases es with
    | nil => simp at hl
    | cons b es =>
      have e : ∀ (c : List Nat) cs, kidsB z.toNat (c :: cs) = c.take z.toNat ++ kidsB z.toNat cs := by intro c cs; simp [kidsB]
      rw [e, e] at h
      obtain ⟨h1, h2⟩ := List.append_inj h (by simp [l1 a (by simp), l2 b (by simp)])
      rw [ih es (by simpa using hl) (fun d hd => l1 d (by simp [hd])) (fun d hd => l2 d (by simp [hd])) (fun d hd => f1 d (by simp [hd])) (fun d hd => f2 d (by simp [hd])) h2,
        form_take (f1 a (by simp)) (f2 b (by simp)) h1]
theorem branchE_zero {z : Int} {x : Nat} {ds : List (List Nat)} (h : branchE z x ds = 0) : formedE z ds = 0 ∧ x ≠ 0 ∧ ones x = ds.length := by
  unfold branchE at h
  by_cases hf : formedE z ds = 0
  · rw [if_pos hf] at h
    by_cases hx : x = 0 ∨ ones x ≠ ds.length
    · rw [if_pos hx] at h; omega
    · refine ⟨hf, fun h9 => hx (Or.inl h9), ?_⟩
      by_cases h7 : ones x = ds.length
      · exact h7
      · exact absurd (Or.inr h7) hx
  · rw [if_neg hf] at h; exact absurd h hf
end Go.Proofs.YtbbjbpjpejekgaaDoor
namespace Go.Proofs.YtbbjbpjpejekgaaDoor
open Go.RowKit Go.BigFrame
set_option linter.unusedVariables false
set_option linter.unusedSimpArgs false

/-- Two things of one kind, alike. -/
def sameD (a b : OpD) : Prop :=
  if a.kd = 1 ∨ a.kd = 3 then a.p = b.p else if a.kd = 2 then a.l = b.l ∧ a.r = b.r else if a.kd = 4 then a.ps = b.ps else if a.kd = 5 then a.x = b.x ∧ a.ds = b.ds else a.s = b.s ∧ a.lg = b.lg ∧ a.mp = b.mp
instance (a b : OpD) : Decidable (sameD a b) := by unfold sameD; infer_instance
def tagOf (k : Int) : Nat := if k = 1 then 0 else if k = 2 then 1 else if k = 3 then 2 else if k = 4 then 3 else if k = 5 then 4 else 6
theorem inB_head (a : OpD) : ∃ t, inB a = tagOf a.kd :: t := by
  unfold inB tagOf
  split
  · exact ⟨_, rfl⟩
  split
  · exact ⟨_, rfl⟩
  split
  · exact ⟨_, rfl⟩
  split
  · exact ⟨_, rfl⟩
  split
  · exact ⟨_, rfl⟩
  exact ⟨_, rfl⟩
theorem inB_iff {w : World} {a b : OpD} {pa ka da pb kb db : Value} (ha : OkD w a pa ka da) (hb : OkD w b pb kb db) (hz : a.z = b.z) (ka' : 1 ≤ a.kd ∧ a.kd ≤ 6) (kb' : 1 ≤ b.kd ∧ b.kd ≤ 6) (ea : inE a = 0) (eb : inE b = 0) :
    inB a = inB b ↔ a.kd = b.kd ∧ sameD a b := by
  by_cases hk : a.kd = b.kd
  · have hne : (a.kd = b.kd ∧ sameD a b) ↔ sameD a b := by simp [hk]
    rw [hne]
    unfold sameD
    unfold inE at ea eb
    unfold inB
    rw [← hk] at eb ⊢
    rcases (by omega : a.kd = 1 ∨ a.kd = 2 ∨ a.kd = 3 ∨ a.kd = 4 ∨ a.kd = 5 ∨ a.kd = 6) with h | h | h | h | h | h
    · simp [h]
    · simp only [h] at ea eb ⊢
      simp at ea eb ⊢
      unfold nodeB
      rw [← hz] at eb ⊢
      obtain ⟨_, fa⟩ := formedE_zero ea
      obtain ⟨_, fb⟩ := formedE_zero eb
      constructor
      · intro h9
        simp only [List.cons.injEq, true_and] at h9
        obtain ⟨h1, h2⟩ := two_takes ha.l.1 ha.r.1 hb.l.1 hb.r.1 h9
        exact ⟨form_take (fa _ (by simp)) (fb _ (by simp)) h1, form_take (fa _ (by simp)) (fb _ (by simp)) h2⟩
      · rintro ⟨h1, h2⟩; rw [h1, h2]
    · simp [h]
    · simp [h, buckB_inj]
    · simp only [h] at ea eb ⊢
      simp at ea eb ⊢
      unfold branchB
      rw [← hz] at eb ⊢
      obtain ⟨ea1, _, ea3⟩ := branchE_zero ea
      obtain ⟨eb1, _, eb3⟩ := branchE_zero eb
      obtain ⟨_, fa⟩ := formedE_zero ea1
      obtain ⟨_, fb⟩ := formedE_zero eb1
      constructor
      · intro h9
        simp only [List.cons_append, List.cons.injEq, true_and] at h9
        obtain ⟨h1, h2⟩ := List.append_inj h9 (by simp [wide_len])
        have hx : a.x = b.x := wideInj 2 _ _ (by have := ha.x; have := hb.x; omega) h1
        refine ⟨hx, kidsB_inj _ _ (by rw [← ea3, ← eb3, hx]) (fun d hd => (ha.ds.digs d hd).1) (fun d hd => (hb.ds.digs d hd).1) fa fb h2⟩
      · rintro ⟨h1, h2⟩; rw [h1, h2]
    · simp only [h] at ea eb ⊢
      simp at ea eb ⊢
      unfold rootB
      rw [← hz] at eb ⊢
      obtain ⟨_, fa⟩ := formedE_zero ea
      obtain ⟨_, fb⟩ := formedE_zero eb
      constructor
      · intro h9
        simp only [List.cons.injEq, true_and] at h9
        obtain ⟨h1, h2⟩ := List.append_inj h9 (by simp [wide_len])
        have hs : a.s = b.s := wideInj 8 _ _ (by have := ha.s; have := hb.s; omega) h1
        obtain ⟨h3, h4⟩ := two_takes ha.lg.1 ha.mp.1 hb.lg.1 hb.mp.1 h2
        exact ⟨hs, form_take (fa _ (by simp)) (fb _ (by simp)) h3, form_take (fa _ (by simp)) (fb _ (by simp)) h4⟩
      · rintro ⟨h1, h2, h3⟩; rw [h1, h2, h3]
  · constructor
    · intro h9
      obtain ⟨t, ht⟩ := inB_head a
      obtain ⟨t', ht'⟩ := inB_head b
      rw [ht, ht'] at h9
      simp only [List.cons.injEq] at h9
      have h8 := h9.1
      unfold tagOf at h8
      exfalso
      revert h8
      rcases (by omega : a.kd = 1 ∨ a.kd = 2 ∨ a.kd = 3 ∨ a.kd = 4 ∨ a.kd = 5 ∨ a.kd = 6) with h | h | h | h | h | h <;>
      rcases (by omega : b.kd = 1 ∨ b.kd = 2 ∨ b.kd = 3 ∨ b.kd = 4 ∨ b.kd = 5 ∨ b.kd = 6) with h' | h' | h' | h' | h' | h' <;>
      simp_all
    · rintro ⟨h9, _⟩; exact absurd h9 hk
end Go.Proofs.YtbbjbpjpejekgaaDoor
namespace Go.Proofs.YtbbjbpjpejekgaaDoor
open Go.RowKit Go.BigFrame
set_option linter.unusedVariables false
set_option linter.unusedSimpArgs false

/-- The greatest power of two below n. -/
def spl (n : Nat) : Nat := 2 ^ (n - 1).log2
theorem spl_lt {n : Nat} (h : 2 ≤ n) : spl n < n := by
  have := Nat.log2_self_le (n := n - 1) (by omega)
  unfold spl; omega
theorem spl_pos (n : Nat) : 1 ≤ spl n := Nat.one_le_two_pow
theorem spl_two {n : Nat} (h : 2 ≤ n) : n ≤ 2 * spl n := by
  have h1 := Nat.lt_log2_self (n := n - 1)
  unfold spl
  rw [Nat.pow_succ] at h1
  omega
/-- A digest's row. -/
def Dg (d : List Nat) : Prop := d.length = 32 ∧ ∀ x ∈ d, x < 256
def zD : List Nat := List.replicate 32 0
theorem zD_dg : Dg zD := ⟨by simp [zD], fun x hx => by simp [zD] at hx; omega⟩
def nodS (z : Int) (l r : List Nat) : List Nat := sumD z (nodeB z l r)
theorem nodS_dg (z : Int) (l r : List Nat) : Dg (nodS z l r) := by
  refine ⟨sumD_len _ _, ?_⟩
  unfold nodS sumD
  split
  · exact cutL_byte _ _ (hash_byte _)
  · intro x hx; simp at hx; omega
theorem cutL_cutL (k : Nat) (d : List Nat) (hk : k ≤ d.length) : cutL k (cutL k d) = cutL k d := by
  unfold cutL
  rw [List.take_append_of_le_length (by simp; omega), List.take_take, Nat.min_self]
theorem nodS_form {z : Int} (hw : widthB z = true) (l r : List Nat) : formB z (nodS z l r) = true := by
  have hz : 1 ≤ z ∧ z ≤ 32 := by simpa [widthB] using hw
  unfold formB nodS sumD
  simp only [hw, if_true, Bool.true_and, decide_eq_true_eq]
  exact cutL_cutL _ _ (by rw [hash_len]; omega)
/-- The root to which a proof leads, the proof turned round: its last digest first. -/
def clD (z : Int) (leaf : List Nat) : List (List Nat) → Nat → Nat → Option (List Nat)
  | [], _, n => if n = 1 then some leaf else none
  | d :: rest, i, n => if n = 1 then none else if i < spl n then (clD z leaf rest i (spl n)).map (fun x => nodS z x d) else (clD z leaf rest (i - spl n) (n - spl n)).map (fun x => nodS z d x)
/-- The two roots. -/
def twD (z : Int) (old : List Nat) : List (List Nat) → Nat → Nat → Bool → Option (List Nat × List Nat)
  | [], m, n, whole => if m = n ∧ whole = true then some (old, old) else none
  | d :: rest, m, n, whole => if m = n then (if whole = false ∧ rest = [] then some (d, d) else none)
    else if m ≤ spl n then (twD z old rest m (spl n) whole).map (fun x => (x.1, nodS z x.2 d)) else (twD z old rest (m - spl n) (n - spl n) false).map (fun x => (nodS z d x.1, nodS z d x.2))
theorem clD_ok {z : Int} (hw : widthB z = true) {leaf : List Nat} (hl : Dg leaf) (hf : formB z leaf = true) : ∀ (p : List (List Nat)) (i n : Nat) (d : List Nat), clD z leaf p i n = some d → Dg d ∧ formB z d = true
  | [], i, n, d, h => by
    unfold clD at h
    split at h
    · simp only [Option.some.injEq] at h; subst h; exact ⟨hl, hf⟩
    · simp at h
  | x :: r, i, n, d, h => by
    unfold clD at h
    split at h
    · simp at h
    · split at h
      · obtain ⟨y, _, rfl⟩ := Option.map_eq_some_iff.1 h
        exact ⟨nodS_dg _ _ _, nodS_form hw _ _⟩
      · obtain ⟨y, _, rfl⟩ := Option.map_eq_some_iff.1 h
        exact ⟨nodS_dg _ _ _, nodS_form hw _ _⟩
theorem twD_ok {z : Int} (hw : widthB z = true) {old : List Nat} (hl : Dg old) (hf : formB z old = true) : ∀ (p : List (List Nat)) (m n : Nat) (b : Bool) (d : List Nat × List Nat), (∀ x ∈ p, Dg x ∧ formB z x = true) → twD z old p m n b = some d → (Dg d.1 ∧ formB z d.1 = true) ∧ (Dg d.2 ∧ formB z d.2 = true)
  | [], m, n, b, d, hp, h => by
    unfold twD at h
    split at h
    · simp only [Option.some.injEq] at h; subst h; exact ⟨⟨hl, hf⟩, ⟨hl, hf⟩⟩
    · simp at h
  | x :: r, m, n, b, d, hp, h => by
    unfold twD at h
    split at h
    · split at h
      · simp only [Option.some.injEq] at h; subst h; exact ⟨hp x (by simp), hp x (by simp)⟩
      · simp at h
    · split at h
      · obtain ⟨y, hy, rfl⟩ := Option.map_eq_some_iff.1 h
        exact ⟨(twD_ok hw hl hf r _ _ _ y (fun u hu => hp u (by simp [hu])) hy).1, ⟨nodS_dg _ _ _, nodS_form hw _ _⟩⟩
      · obtain ⟨y, hy, rfl⟩ := Option.map_eq_some_iff.1 h
        exact ⟨⟨nodS_dg _ _ _, nodS_form hw _ _⟩, ⟨nodS_dg _ _ _, nodS_form hw _ _⟩⟩
/-- What RootOf answers. -/
def clO (z : Int) (leaf : List Nat) (i n : Nat) (p : List (List Nat)) : Option (List Nat) := clD z leaf p.reverse i n
def rootE (z : Int) (leaf : List Nat) (i n : Nat) (p : List (List Nat)) : Nat := if formedE z (leaf :: p) ≠ 0 then formedE z (leaf :: p) else if n ≤ i then 4 else if (clO z leaf i n p).isSome then 0 else 10
def rootD (z : Int) (leaf : List Nat) (i n : Nat) (p : List (List Nat)) : List Nat := if rootE z leaf i n p = 0 then (clO z leaf i n p).getD zD else zD
/-- What RootsOf answers. -/
def twO (z : Int) (old : List Nat) (m n : Nat) (b : Bool) (p : List (List Nat)) : Option (List Nat × List Nat) := twD z old p.reverse m n b
def rootsE (z : Int) (old : List Nat) (m n : Nat) (p : List (List Nat)) : Nat := if formedE z (old :: p) ≠ 0 then formedE z (old :: p) else if m = 0 ∨ n ≤ m then 4 else if (twO z old m n true p).isSome then 0 else 10
def rootsD (z : Int) (old : List Nat) (m n : Nat) (p : List (List Nat)) : List Nat × List Nat := if rootsE z old m n p = 0 then (twO z old m n true p).getD (zD, zD) else (zD, zD)
/-- What Inclusion answers. -/
def incE (z : Int) (leaf : List Nat) (i n : Nat) (p : List (List Nat)) (root : List Nat) : Nat := if formedE z (leaf :: root :: p) ≠ 0 then formedE z (leaf :: root :: p) else if rootE z leaf i n p ≠ 0 then rootE z leaf i n p else if rootD z leaf i n p = root then 0 else 10
/-- What Consistency answers. -/
def conE (z : Int) (m n : Nat) (old root : List Nat) (p : List (List Nat)) : Nat :=
  if formedE z (old :: root :: p) ≠ 0 then formedE z (old :: root :: p) else if n < m then 4 else if m = n then (if p = [] ∧ old = root then 0 else 10) else if m = 0 then (if p = [] ∧ old = sumD z [] then 0 else 10) else
    if rootsE z old m n p ≠ 0 then rootsE z old m n p else if (rootsD z old m n p).1 = old ∧ (rootsD z old m n p).2 = root then 0 else 10
theorem formedE_cases (z : Int) (ds : List (List Nat)) : formedE z ds = 0 ∨ formedE z ds = 1 ∨ formedE z ds = 3 := by
  unfold formedE; split; simp; split <;> simp
end Go.Proofs.YtbbjbpjpejekgaaDoor
namespace Go.Proofs.YtbbjbpjpejekgaaDoor
open Go.RowKit Go.BigFrame
set_option linter.unusedVariables false
set_option linter.unusedSimpArgs false

/-- A question: its width, leaf, two numbers, proof, root. -/
structure AskD where
  z : Int
  l : List Nat
  i : Nat
  n : Nat
  p : List (List Nat)
  r : List Nat
def askC (q : AskD) (pv : Value) : List Value := [.int .i64 q.z] ++ (q.l.map u8 ++ ([.int .u64 (q.i : Int), .int .u64 (q.n : Int), pv] ++ (q.r.map u8 ++ [])))
def zask : Array Value := (askC ⟨0, zD, 0, 0, [], zD⟩ (.slice none 0 0)).toArray
structure OkA (w : World) (q : AskD) (pv : Value) : Prop where
  z : -9223372036854775808 ≤ q.z ∧ q.z ≤ 9223372036854775807
  l : Dg q.l
  i : q.i < 18446744073709551616
  n : q.n < 18446744073709551616
  p : RdD w pv q.p
  pl : q.p.length ≤ 1048576
  r : Dg q.r
theorem OkA.old {w w' : World} {q : AskD} {pv : Value} (h : OkA w q pv) (k : Kept [] w w') : OkA w' q pv :=
  ⟨h.z, h.l, h.i, h.n, h.p.old k, h.pl, h.r⟩
theorem a_mid {w : World} {g n : Nat} {t : TypeId} {fr : Nat × Nat} (a b c : List Value) (h : w.heap[g]? = some (.cells (a ++ (b ++ c)).toArray t fr)) (hn : a.length = n) : w.rangeAt g n b := by
  subst hn
  intro j v hv
  have hj := (List.getElem?_eq_some_iff.1 hv).1
  rw [cell_of_row w g _ _ t fr h, List.getElem?_toArray, List.getElem?_append_right (by omega), Nat.add_sub_cancel_left, List.getElem?_append_left hj, hv]
theorem ask_cells {w : World} {g : Nat} {t : TypeId} {fr : Nat × Nat} {q : AskD} {pv : Value} (h : w.heap[g]? = some (.cells (askC q pv).toArray t fr)) (hl : q.l.length = 32) :
    w.cell? ⟨g, 0, none⟩ = some (.int .i64 q.z) ∧ w.rangeAt g 1 (q.l.map u8) ∧ (w.cell? ⟨g, 33, none⟩ = some (.int .u64 (q.i : Int)) ∧ w.cell? ⟨g, 34, none⟩ = some (.int .u64 (q.n : Int)) ∧ w.cell? ⟨g, 35, none⟩ = some pv) ∧ w.rangeAt g 36 (q.r.map u8) := by
  unfold askC at h
  have h1 := a_mid (n := 1) _ _ _ h rfl
  have h33 := a_mid (n := 33) ([.int .i64 q.z] ++ q.l.map u8) [.int .u64 (q.i : Int), .int .u64 (q.n : Int), pv] _ (by simpa using h) (by simp [hl])
  have h36 := a_mid (n := 36) ([.int .i64 q.z] ++ q.l.map u8 ++ [.int .u64 (q.i : Int), .int .u64 (q.n : Int), pv]) (q.r.map u8) [] (by simpa using h) (by simp [hl])
  have c : ∀ j v, ([.int .i64 q.z] : List Value)[j]? = some v → w.cell? ⟨g, j, none⟩ = some v := by
    intro j v hv
    rw [cell_of_row w g _ _ t fr h, List.getElem?_toArray, List.getElem?_append_left (List.getElem?_eq_some_iff.1 hv).1, hv]
  exact ⟨c 0 _ rfl, h1, ⟨h33 0 _ rfl, h33 1 _ rfl, h33 2 _ rfl⟩, h36⟩
end Go.Proofs.YtbbjbpjpejekgaaDoor
namespace Go.Proofs.YtbbjbpjpejekgaaDoor
open Go.RowKit Go.BigFrame
set_option linter.unusedVariables false
set_option linter.unusedSimpArgs false

theorem bitLen_log (x : Nat) : x ≠ 0 → x < 2 ^ 64 → Lib.bitLen x = x.log2 + 1 := by
  induction x using Nat.strongRecOn with
  | _ x ih =>
    intro h0 h
    rw [Lib.bitLen_half x h0 h]
    by_cases h1 : x < 2
    · have : x = 1 := by omega
      subst this; rfl
    · rw [ih (x / 2) (by omega) (by omega) (by omega), Nat.log2_def x, if_pos (by omega)]
      omega

set_option maxRecDepth 100000 in
theorem l8_size : (Lib.len8tab.size : Int) = 256 := by
  have : Lib.len8tab.size = 256 := by decide
  omega
theorem l8_add (k a b : Nat) (hk : k ≤ 56) (ha : a ≤ 8) (hb : b = k + a) : RowKit.wrap64 ((k : Int) + RowKit.wrap64 (a : Int)) = (b : Int) := by
  unfold RowKit.wrap64
  omega
theorem l8_two (a : Nat) (ha : a ≤ 8) : RowKit.wrap64 (RowKit.wrap64 (a : Int)) = (a : Int) := by
  unfold RowKit.wrap64
  omega
theorem l8_one (a : Nat) (ha : a ≤ 8) : RowKit.wrap64 (a : Int) = (a : Int) := by
  unfold RowKit.wrap64
  omega
theorem l8_get (y : Int) (h : y.toNat < Lib.len8tab.size) : ((Lib.len8tab[y.toNat]'h).toNat : Int) = Lib.len8 y := by
  unfold Lib.len8
  rw [getElem?_pos Lib.len8tab y.toNat h]
  rfl

theorem shl1_run (P : Program) (t : TypeId) (m : Nat) (hm : m < 64) (W : World) : (Op.shift .shl .u64 1 .i64 (m : Int)).run P W = .ok (.int .u64 ((2 ^ m : Nat) : Int)) W := by
  rw [shift_shl_any .u64 .i64 1 (m : Int) (by omega)]
  have hmin : min (m : Int).toNat IntKind.u64.bits = (m : Int).toNat := by simp [IntKind.bits]; omega
  rw [hmin]
  have h1 : 2 ^ m < 2 ^ 64 := Nat.pow_lt_pow_right (by decide) hm
  have e : IntKind.u64.wrap (1 * 2 ^ (m : Int).toNat) = ((2 ^ m : Nat) : Int) := by
    rw [Int.toNat_natCast, Int.one_mul]
    have h2 : ((2 : Int) ^ m) = ((2 ^ m : Nat) : Int) := by simp
    rw [h2]
    generalize 2 ^ m = y at h1 ⊢
    simp [IntKind.wrap, IntKind.signed, IntKind.bits]
    omega
  rw [e]
  rfl
theorem wpList_shl1 {P : Program} {ops : Array Oper} {rest : List Oper} {o : Oper} {a : Act} {w : World} {Q : Exit → Act → World → Prop} (hgd : o.guard = none) (t t2 : TypeId) (y : Operand)
    (ho : o.op = .binOp .shl t (.const (.int .u64 1)) y t2) (m : Nat) (hm : m < 64) (hy : a.eval y = .int .i64 (m : Int)) (hK : wpList P ops Q rest (a.put o.dst (.int .u64 ((2 ^ m : Nat) : Int))) w) : wpList P ops Q (o :: rest) a w := by
  refine wpList_plain hgd fun K hK' => ?_
  unfold Oper.wp execOp
  have h1 : a.eval (.const (.int .u64 1)) = .int .u64 1 := rfl
  simp only [ho, hy, h1, eqGuard_shl, binOp_shl, Sem.run_bind, Sem.run_pure, Result.andThen_ok, shl1_run P t m hm]
  exact hK' _ _ hK

end Go.Proofs.YtbbjbpjpejekgaaDoor
/-
  A row in the midst of a block, read within a quiet walk.
-/
namespace Go.Proofs.YtbbjbpjpejekgaaDoor
open Go Go.RowKit Go.BigFrame

theorem wpQuiet_mid {P : Program} {ops : Array Oper} {C : World → Prop} {Q : Act → Prop} {a : Act} {o : Oper} {rest : List Oper} (hw : Region.wanted o (yielded ops a.tmps) = true) (ty : TypeId) (x : Operand) (ho : o.op = .load ty x)
    (b off : Nat) (hx : a.eval x = .pointer (some ⟨b, off, none⟩)) (cs : List Value) (d : TypeDesc) (hg : ∀ w, C w → w.rangeAt b off cs)
    (hu : P.underlying ty = some d) (hd : d.isRow = true) (hi : (P.info? ty).map (·.size) = some cs.length)
    (h : wpQuiet P ops C Q rest (a.put o.dst (.agg cs.toArray))) : wpQuiet P ops C Q (o :: rest) a := by
  refine wpQuiet_want hw fun K hK => ⟨.agg cs.toArray, fun w hw => ?_, hK _ h⟩
  unfold Oper.quietAt execOp
  simp only [ho]
  have := run_loadVar_mid (P := P) w b off ty cs d (hg w hw) hu hd hi
  simp only [hx, Instr.loadAt, Instr.sureAddr, Sem.run_bind, Sem.run_pure, Result.andThen_ok, this, Oper.quietUpon, and_self]
end Go.Proofs.YtbbjbpjpejekgaaDoor
namespace Go.Proofs.YtbbjbpjpejekgaaDoor
open Go.RowKit Go.BigFrame
set_option linter.unusedVariables false
set_option linter.unusedSimpArgs false

theorem RdD.upto {w : World} {ao : Option Addr} {len cap : Nat} {ds : List (List Nat)} (h : RdD w (.slice ao len cap) ds) (k : Nat) (hk : k ≤ len) : RdD w (.slice ao k cap) (ds.take k) := by
  obtain ⟨ao', len', cap', e, h1, h2, h3, h4, h5⟩ := h
  cases e
  refine ⟨ao, k, cap, rfl, by rw [List.length_take]; omega, by omega, h3, fun d hd => h4 d (List.mem_of_mem_take hd), fun hp => ?_⟩
  obtain ⟨b, off, rfl, hc⟩ := h5 (by omega)
  refine ⟨b, off, rfl, fun i hi => ?_⟩
  rw [List.getD_eq_getElem?_getD, List.getElem?_take_of_lt hi, ← List.getD_eq_getElem?_getD]
  exact hc i (by omega)
theorem RdD.dg {w : World} {v : Value} {ds : List (List Nat)} (h : RdD w v ds) {d : List Nat} (hd : d ∈ ds) : Dg d := by
  obtain ⟨ao', len', cap', e, h1, h2, h3, h4, h5⟩ := h
  exact h4 d hd
/-- What stands ahead of the last, and that one. -/
theorem last_cut {ds : List (List Nat)} {x : List Nat} {r : List (List Nat)} (h : ds.reverse = x :: r) : ds = r.reverse ++ [x] ∧ ds.length = r.length + 1 := by
  have h2 := congrArg List.reverse h
  simp only [List.reverse_reverse, List.reverse_cons] at h2
  refine ⟨h2, ?_⟩
  rw [h2]; simp

theorem results_tmp_cell {P : Program} {fn : Func} {p q : Tmp} {ty : TypeId} (h : fn.results = #[.tmp q, .cell p ty]) (tmps : Array Value) (w : World) (g : Nat) (t : TypeId) (cs : Array Value) (fr : Nat × Nat) (d : TypeDesc)
    (hp : tmps.getD p undef = .pointer (some ⟨g, 0, none⟩)) (hg : w.heap[g]? = some (.cells cs t fr))
    (hu : P.underlying ty = some d) (hd : (match d with | .struct _ | .array _ _ => true | _ => false) = true) (hi : (P.info? ty).map (·.size) = some cs.size) (v : Value) (hq : tmps.getD q undef = v) :
    (results fn tmps).run P w = .ok (.tuple #[v, .agg cs]) w := by
  have hp' : tmps[p]?.getD undef = .pointer (some ⟨g, 0, none⟩) := by simpa using hp
  have hq' : tmps[q]?.getD undef = v := by simpa using hq
  simp [results, h, hp', hq', asAddr, run_loadVar_row w g t ty cs fr d hg hu hd hi]
theorem formedE_two {z : Int} {l m : List Nat} (hw : widthB z = true) (hl : formB z l = true) (hm : formB z m = true) : formedE z [l, m] = 0 := by simp [formedE, hw, hl, hm]

theorem spl_of {n k : Nat} (h2 : 2 ≤ n) (j : Nat) (hk : k = 2 ^ j) (hlt : k < n) (hge : n ≤ 2 * k) : spl n = k := by
  subst hk
  unfold spl
  have : (n - 1).log2 = j := by
    have a1 : 2 ^ j ≤ n - 1 := by omega
    have a2 : n - 1 < 2 ^ (j + 1) := by rw [Nat.pow_succ]; omega
    exact (Nat.log2_eq_iff (by omega)).2 ⟨a1, a2⟩
  rw [this]

end Go.Proofs.YtbbjbpjpejekgaaDoor
