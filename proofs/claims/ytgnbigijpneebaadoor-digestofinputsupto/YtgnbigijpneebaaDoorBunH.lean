import Derived.Test.YtgnbigijpneebaaDoorBunG
namespace Go.Proofs.YtgnbigijpneebaaDoor
open Go.RowKit Go.BigFrame
set_option linter.unusedVariables false
set_option linter.unusedSimpArgs false

set_option maxRecDepth 100000 in
set_option maxHeartbeats 1000000 in
theorem leaf_all (z : Int) (v : Value) (p : List Nat) (w : World) (hz : -9223372036854775808 ≤ z ∧ z ≤ 9223372036854775807) (h : Rd w v p) (hl : p.length ≤ 140737488351232) (hT : Tabs w) :
    Calls Tryd.prog 14 #[.int .i64 z, v] w fun e w' => e = .returned (.tuple #[.agg (brow (sumD z (0 :: p))), .int .i64 (sumE z)]) ∧ Kept [] w w' := by
  have H := hide h
  have HT := hide hT
  clear h hT
  have hcl := sumD_len z (0 :: p)
  obtain ⟨B, hB⟩ : ∃ B, 0 :: p = B := ⟨_, rfl⟩
  have HB := hide hB
  rw [hB] at hcl ⊢
  clear hB
  obtain ⟨D, hD⟩ : ∃ D, sumD z B = D := ⟨_, rfl⟩
  have HD := hide hD
  rw [hD] at hcl ⊢
  clear hD
  obtain ⟨E, hE⟩ : ∃ E, sumE z = E := ⟨_, rfl⟩
  have HE := hide hE
  rw [hE]
  clear hE
  go_enter Tryd.func14, Tryd.ntmps14
  go_wp2_with fail
  rw [zb32]
  refine Calls.mono (leafInput_any _ p _ ((unhide H).old ((Kept.refl [] w).alloc _) (by simp)) hl) ?_
  rintro e w1 ⟨v1, rfl, n1, k1⟩
  rw [unhide HB] at n1
  have HR1 := hide n1.1
  obtain ⟨a1, m1, c1, hu1, hm1, _⟩ := id n1.1
  subst hu1
  have HZ1 := hide (k1.heap (heap_alloc_new w (.cells (zb 32) 26)) (by simp))
  have HK1 := hide (((Kept.refl [] w).alloc (.cells (zb 32) 26)).trans k1 (by simp))
  clear n1 k1
  go_wp2_with fail
  refine Calls.mono (dsum_all z _ [B] _ hz (RdL.one (heap_alloc_new _ _) ((unhide HR1).old ((Kept.refl [] w1).alloc _) (by simp))) (by have h9 := (unhide HR1).len; simpa using h9) ((unhide HT).k ((unhide HK1).alloc _))) ?_
  rintro e w2 ⟨rfl, k2⟩
  rw [show ([B] : List (List Nat)).flatten = B by simp, unhide HD, unhide HE]
  have HZ2 := hide (k2.heap ((Kept.refl [] w1).alloc (.cells #[.slice a1 m1 c1] 24) |>.heap (unhide HZ1) (by simp)) (by simp))
  have HK2 := hide (((unhide HK1).alloc _).trans k2 (by simp))
  clear k2
  go_wp2_with (refine wpList_store_row rfl 26 _ _ rfl w.heap.size (brow D) rfl rfl _ (zb 32) (unhide HZ2) (by rw [brow_size, hcl]; exact Tryd.size_dig) (by rw [zb_size, brow_size, hcl]) (brow_one _) ?_)
  refine bodyPost_ret (v := .tuple #[.agg (brow D), .int .i64 E]) ?_ rfl ⟨rfl, (unhide HK2).setRow (by simp) _⟩
  exact results_cell_tmp rfl _ _ w.heap.size _ (brow D) (0, 0) _ rfl (setRow_heap _ _ _ _ _ _ (unhide HZ2)) Tryd.underlying26 rfl (by rw [brow_size, hcl]; exact Tryd.size_dig) _ rfl

set_option maxRecDepth 100000 in
set_option maxHeartbeats 1000000 in
theorem key_all (z : Int) (v : Value) (p : List Nat) (w : World) (hz : -9223372036854775808 ≤ z ∧ z ≤ 9223372036854775807) (h : Rd w v p) (hl : p.length ≤ 140737488351232) (hT : Tabs w) :
    Calls Tryd.prog 46 #[.int .i64 z, v] w fun e w' => e = .returned (.tuple #[.agg (brow (sumD z (2 :: p))), .int .i64 (sumE z)]) ∧ Kept [] w w' := by
  have H := hide h
  have HT := hide hT
  clear h hT
  have hcl := sumD_len z (2 :: p)
  obtain ⟨B, hB⟩ : ∃ B, 2 :: p = B := ⟨_, rfl⟩
  have HB := hide hB
  rw [hB] at hcl ⊢
  clear hB
  obtain ⟨D, hD⟩ : ∃ D, sumD z B = D := ⟨_, rfl⟩
  have HD := hide hD
  rw [hD] at hcl ⊢
  clear hD
  obtain ⟨E, hE⟩ : ∃ E, sumE z = E := ⟨_, rfl⟩
  have HE := hide hE
  rw [hE]
  clear hE
  go_enter Tryd.func46, Tryd.ntmps46
  go_wp2_with fail
  rw [zb32]
  refine Calls.mono (keyInput_any _ p _ ((unhide H).old ((Kept.refl [] w).alloc _) (by simp)) hl) ?_
  rintro e w1 ⟨v1, rfl, n1, k1⟩
  rw [unhide HB] at n1
  have HR1 := hide n1.1
  obtain ⟨a1, m1, c1, hu1, hm1, _⟩ := id n1.1
  subst hu1
  have HZ1 := hide (k1.heap (heap_alloc_new w (.cells (zb 32) 26)) (by simp))
  have HK1 := hide (((Kept.refl [] w).alloc (.cells (zb 32) 26)).trans k1 (by simp))
  clear n1 k1
  go_wp2_with fail
  refine Calls.mono (dsum_all z _ [B] _ hz (RdL.one (heap_alloc_new _ _) ((unhide HR1).old ((Kept.refl [] w1).alloc _) (by simp))) (by have h9 := (unhide HR1).len; simpa using h9) ((unhide HT).k ((unhide HK1).alloc _))) ?_
  rintro e w2 ⟨rfl, k2⟩
  rw [show ([B] : List (List Nat)).flatten = B by simp, unhide HD, unhide HE]
  have HZ2 := hide (k2.heap ((Kept.refl [] w1).alloc (.cells #[.slice a1 m1 c1] 24) |>.heap (unhide HZ1) (by simp)) (by simp))
  have HK2 := hide (((unhide HK1).alloc _).trans k2 (by simp))
  clear k2
  go_wp2_with (refine wpList_store_row rfl 26 _ _ rfl w.heap.size (brow D) rfl rfl _ (zb 32) (unhide HZ2) (by rw [brow_size, hcl]; exact Tryd.size_dig) (by rw [zb_size, brow_size, hcl]) (brow_one _) ?_)
  refine bodyPost_ret (v := .tuple #[.agg (brow D), .int .i64 E]) ?_ rfl ⟨rfl, (unhide HK2).setRow (by simp) _⟩
  exact results_cell_tmp rfl _ _ w.heap.size _ (brow D) (0, 0) _ rfl (setRow_heap _ _ _ _ _ _ (unhide HZ2)) Tryd.underlying26 rfl (by rw [brow_size, hcl]; exact Tryd.size_dig) _ rfl

set_option maxRecDepth 100000 in
set_option maxHeartbeats 1000000 in
theorem bucket_all (z : Int) (v : Value) (ps : List (List Nat × List Nat)) (w : World) (hz : -9223372036854775808 ≤ z ∧ z ≤ 9223372036854775807) (h : RdK w v ps) (hl : (pairB ps).length ≤ 1000000000000) (hT : Tabs w) :
    Calls Tryd.prog 47 #[.int .i64 z, v] w fun e w' => e = .returned (.tuple #[.agg (brow (sumD z (buckB ps))), .int .i64 (sumE z)]) ∧ Kept [] w w' := by
  have H := hide h
  have HT := hide hT
  clear h hT
  have hcl := sumD_len z (buckB ps)
  obtain ⟨B, hB⟩ : ∃ B, buckB ps = B := ⟨_, rfl⟩
  have HB := hide hB
  rw [hB] at hcl ⊢
  clear hB
  obtain ⟨D, hD⟩ : ∃ D, sumD z B = D := ⟨_, rfl⟩
  have HD := hide hD
  rw [hD] at hcl ⊢
  clear hD
  obtain ⟨E, hE⟩ : ∃ E, sumE z = E := ⟨_, rfl⟩
  have HE := hide hE
  rw [hE]
  clear hE
  go_enter Tryd.func47, Tryd.ntmps47
  go_wp2_with fail
  rw [zb32]
  refine Calls.mono (bucketInput_any _ ps _ ((unhide H).old ((Kept.refl [] w).alloc _)) hl) ?_
  rintro e w1 ⟨v1, rfl, n1, k1⟩
  rw [unhide HB] at n1
  have HR1 := hide n1.1
  obtain ⟨a1, m1, c1, hu1, hm1, _⟩ := id n1.1
  subst hu1
  have HZ1 := hide (k1.heap (heap_alloc_new w (.cells (zb 32) 26)) (by simp))
  have HK1 := hide (((Kept.refl [] w).alloc (.cells (zb 32) 26)).trans k1 (by simp))
  clear n1 k1
  go_wp2_with fail
  refine Calls.mono (dsum_all z _ [B] _ hz (RdL.one (heap_alloc_new _ _) ((unhide HR1).old ((Kept.refl [] w1).alloc _) (by simp))) (by have h9 := (unhide HR1).len; simpa using h9) ((unhide HT).k ((unhide HK1).alloc _))) ?_
  rintro e w2 ⟨rfl, k2⟩
  rw [show ([B] : List (List Nat)).flatten = B by simp, unhide HD, unhide HE]
  have HZ2 := hide (k2.heap ((Kept.refl [] w1).alloc (.cells #[.slice a1 m1 c1] 24) |>.heap (unhide HZ1) (by simp)) (by simp))
  have HK2 := hide (((unhide HK1).alloc _).trans k2 (by simp))
  clear k2
  go_wp2_with (refine wpList_store_row rfl 26 _ _ rfl w.heap.size (brow D) rfl rfl _ (zb 32) (unhide HZ2) (by rw [brow_size, hcl]; exact Tryd.size_dig) (by rw [zb_size, brow_size, hcl]) (brow_one _) ?_)
  refine bodyPost_ret (v := .tuple #[.agg (brow D), .int .i64 E]) ?_ rfl ⟨rfl, (unhide HK2).setRow (by simp) _⟩
  exact results_cell_tmp rfl _ _ w.heap.size _ (brow D) (0, 0) _ rfl (setRow_heap _ _ _ _ _ _ (unhide HZ2)) Tryd.underlying26 rfl (by rw [brow_size, hcl]; exact Tryd.size_dig) _ rfl

end Go.Proofs.YtgnbigijpneebaaDoor
namespace Go.Proofs.YtgnbigijpneebaaDoor
open Go.RowKit Go.BigFrame
set_option linter.unusedVariables false
set_option linter.unusedSimpArgs false

def sunD (e : Nat) (z : Int) (p : List Nat) : List Nat := if e = 0 then sumD z p else List.replicate 32 0
def sunE (e : Nat) (z : Int) : Nat := if e = 0 then sumE z else e
theorem sunD_len (e : Nat) (z : Int) (p : List Nat) : (sunD e z p).length = 32 := by
  unfold sunD; split
  · exact sumD_len _ _
  · simp

set_option maxRecDepth 100000 in
set_option maxHeartbeats 1000000 in
theorem sumUnless_any (f : Nat) (z : Int) (v : Value) (p : List Nat) (w : World) (hz : -9223372036854775808 ≤ z ∧ z ≤ 9223372036854775807) (h : Rd w v p) (hT : Tabs w) :
    Calls Tryd.prog 86 #[.int .i64 f, .int .i64 z, v] w fun e w' => e = .returned (.tuple #[.agg (brow (sunD f z p)), .int .i64 (sunE f z)]) ∧ Kept [] w w' := by
  have H := hide h
  obtain ⟨a0, m0, c0, hu0, hm0, _⟩ := id h
  subst hu0
  subst hm0
  have HT := hide hT
  clear h hT
  have hcl := sunD_len f z p
  obtain ⟨D, hD⟩ : ∃ D, sunD f z p = D := ⟨_, rfl⟩
  have HD := hide hD
  rw [hD] at hcl ⊢
  clear hD
  obtain ⟨E, hE⟩ : ∃ E, sunE f z = E := ⟨_, rfl⟩
  have HE := hide hE
  rw [hE]
  clear hE
  have HL := hide (unhide H).len
  go_enter Tryd.func86, Tryd.ntmps86
  by_cases hf : f = 0
  · have hb : ((f : Int) != 0) = false := by rw [hf]; rfl
    have HD2 := hide (by rw [← unhide HD]; unfold sunD; rw [if_pos hf] : D = sumD z p)
    have HE2 := hide (by rw [← unhide HE]; unfold sunE; rw [if_pos hf] : E = sumE z)
    have HF := hide hf
    clear hf
    go_wp2_with fail
    rw [zb32]
    refine Calls.mono (dsum_all z _ [p] _ hz (RdL.one (alloc_at _ _ _) ((unhide H).old (((Kept.refl [] w).alloc _).alloc _) (by simp))) (by have h9 := unhide HL; simpa using h9) ((unhide HT).k (((Kept.refl [] w).alloc _).alloc _))) ?_
    rintro e w2 ⟨rfl, k2⟩
    rw [show ([p] : List (List Nat)).flatten = p by simp, ← unhide HD2, ← unhide HE2]
    have HZ2 := hide (k2.heap (((Kept.refl [] (w.alloc (.cells (zb 32) 26))).alloc (.cells #[.slice a0 p.length c0] 24)).heap (heap_alloc_new w (.cells (zb 32) 26)) (by simp)) (by simp))
    have HK2 := hide ((((Kept.refl [] w).alloc _).alloc _).trans k2 (by simp))
    clear k2
    go_wp2_with (refine wpList_store_row rfl 26 _ _ rfl w.heap.size (brow D) rfl rfl _ (zb 32) (unhide HZ2) (by rw [brow_size, hcl]; exact Tryd.size_dig) (by rw [zb_size, brow_size, hcl]) (brow_one _) ?_)
    refine bodyPost_ret (v := .tuple #[.agg (brow D), .int .i64 E]) ?_ rfl ⟨rfl, (unhide HK2).setRow (by simp) _⟩
    exact results_cell_tmp rfl _ _ w.heap.size _ (brow D) (0, 0) _ rfl (setRow_heap _ _ _ _ _ _ (unhide HZ2)) Tryd.underlying26 rfl (by rw [brow_size, hcl]; exact Tryd.size_dig) _ rfl
  · have hb : ((f : Int) != 0) = true := by rw [bne_iff_ne]; omega
    have HD2 := hide (by rw [← unhide HD]; unfold sunD; rw [if_neg hf] : D = List.replicate 32 0)
    have HE2 := hide (by rw [← unhide HE]; unfold sunE; rw [if_neg hf] : E = f)
    have HF := hide hf
    clear hf
    go_wp2_with (rw [zb32]; refine wpList_store_row rfl 26 _ _ rfl w.heap.size (zb 32) rfl rfl _ (zb 32) (heap_alloc_new _ _) (by rw [zb_size]; exact Tryd.size_dig) rfl (brow_one _) ?_)
    rw [unhide HD2, unhide HE2]
    refine bodyPost_ret (v := .tuple #[.agg (zb 32), .int .i64 f]) ?_ rfl ⟨rfl, ((Kept.refl [] w).alloc _).setRow (by simp) _⟩
    exact results_cell_tmp rfl _ _ w.heap.size _ (zb 32) (0, 0) _ rfl (setRow_heap _ _ _ _ _ _ (heap_alloc_new _ _)) Tryd.underlying26 rfl (by rw [zb_size]; exact Tryd.size_dig) _ rfl
end Go.Proofs.YtgnbigijpneebaaDoor
namespace Go.Proofs.YtgnbigijpneebaaDoor
open Go.RowKit Go.BigFrame
set_option linter.unusedVariables false
set_option linter.unusedSimpArgs false

set_option maxRecDepth 100000 in
set_option maxHeartbeats 1000000 in
theorem branch_all (z : Int) (x : Nat) (v : Value) (ds : List (List Nat)) (w : World) (hz : -9223372036854775808 ≤ z ∧ z ≤ 9223372036854775807) (hx : x < 65536) (h : RdD w v ds) (hT : Tabs w) :
    Calls Tryd.prog 48 #[.int .i64 z, .int .u16 x, v] w fun e w' => e = .returned (.tuple #[.agg (brow (sunD (branchE z x ds) z (branchB z x ds))), .int .i64 (sunE (branchE z x ds) z)]) ∧ Kept [] w w' := by
  have HT := hide hT
  clear hT
  have hcl := sunD_len (branchE z x ds) z (branchB z x ds)
  have HX := hide (by unfold sunD; by_cases h9 : branchE z x ds = 0; rw [if_pos h9, if_pos h9, if_pos h9]; rw [if_neg h9, if_neg h9] : sunD (branchE z x ds) z (if branchE z x ds = 0 then branchB z x ds else []) = sunD (branchE z x ds) z (branchB z x ds))
  obtain ⟨f, hf⟩ : ∃ f, branchE z x ds = f := ⟨_, rfl⟩
  have HF := hide hf
  rw [hf] at hcl HX ⊢
  clear hf
  obtain ⟨D, hD⟩ : ∃ D, sunD f z (branchB z x ds) = D := ⟨_, rfl⟩
  have HD := hide hD
  rw [hD] at hcl HX ⊢
  clear hD
  obtain ⟨E, hE⟩ : ∃ E, sunE f z = E := ⟨_, rfl⟩
  have HE := hide hE
  rw [hE]
  clear hE
  go_enter Tryd.func48, Tryd.ntmps48
  go_wp2_with fail
  rw [zb32]
  refine Calls.mono (branchInput_any z x _ ds _ hz hx (h.old ((Kept.refl [] w).alloc _))) ?_
  rintro e w1 ⟨v1, rfl, n1, k1⟩
  rw [unhide HF] at n1 ⊢
  have HR1 := hide n1.1
  obtain ⟨a1, m1, c1, hu1, hm1, _⟩ := id n1.1
  subst hu1
  have HZ1 := hide (k1.heap (heap_alloc_new w (.cells (zb 32) 26)) (by simp))
  have HK1 := hide (((Kept.refl [] w).alloc (.cells (zb 32) 26)).trans k1 (by simp))
  clear n1 k1 hm1
  go_wp2_with fail
  refine Calls.mono (sumUnless_any f z _ _ w1 hz (unhide HR1) ((unhide HT).k (unhide HK1))) ?_
  rintro e w2 ⟨rfl, k2⟩
  rw [unhide HX, unhide HE]
  have HZ2 := hide (k2.heap (unhide HZ1) (by simp))
  have HK2 := hide ((unhide HK1).trans k2 (by simp))
  clear k2
  go_wp2_with (refine wpList_store_row rfl 26 _ _ rfl w.heap.size (brow D) rfl rfl _ (zb 32) (unhide HZ2) (by rw [brow_size, hcl]; exact Tryd.size_dig) (by rw [zb_size, brow_size, hcl]) (brow_one _) ?_)
  refine bodyPost_ret (v := .tuple #[.agg (brow D), .int .i64 E]) ?_ rfl ⟨rfl, (unhide HK2).setRow (by simp) _⟩
  exact results_cell_tmp rfl _ _ w.heap.size _ (brow D) (0, 0) _ rfl (setRow_heap _ _ _ _ _ _ (unhide HZ2)) Tryd.underlying26 rfl (by rw [brow_size, hcl]; exact Tryd.size_dig) _ rfl

end Go.Proofs.YtgnbigijpneebaaDoor
namespace Go.Proofs.YtgnbigijpneebaaDoor
open Go.RowKit Go.BigFrame
set_option linter.unusedVariables false
set_option linter.unusedSimpArgs false

set_option maxRecDepth 100000 in
set_option maxHeartbeats 1000000 in
theorem node_all (z : Int) (l m : List Nat) (w : World) (hz : -9223372036854775808 ≤ z ∧ z ≤ 9223372036854775807) (hl : l.length = 32) (hm : m.length = 32) (hlb : ∀ x ∈ l, x < 256) (hmb : ∀ x ∈ m, x < 256) (hT : Tabs w) :
    Calls Tryd.prog 45 #[.int .i64 z, .agg (brow l), .agg (brow m)] w fun e w' => e = .returned (.tuple #[.agg (brow (sunD (formedE z [l, m]) z (nodeB z l m))), .int .i64 (sunE (formedE z [l, m]) z)]) ∧ Kept [] w w' := by
  have HT := hide hT
  have HB := hide hlb
  have HB2 := hide hmb
  clear hT hlb hmb
  have hcl := sunD_len (formedE z [l, m]) z (nodeB z l m)
  have HX := hide (by unfold sunD; by_cases h9 : formedE z [l, m] = 0; rw [if_pos h9, if_pos h9, if_pos h9]; rw [if_neg h9, if_neg h9] : sunD (formedE z [l, m]) z (if formedE z [l, m] = 0 then nodeB z l m else []) = sunD (formedE z [l, m]) z (nodeB z l m))
  obtain ⟨f, hf⟩ : ∃ f, formedE z [l, m] = f := ⟨_, rfl⟩
  have HF := hide hf
  rw [hf] at hcl HX ⊢
  clear hf
  obtain ⟨D, hD⟩ : ∃ D, sunD f z (nodeB z l m) = D := ⟨_, rfl⟩
  have HD := hide hD
  rw [hD] at hcl HX ⊢
  clear hD
  obtain ⟨E, hE⟩ : ∃ E, sunE f z = E := ⟨_, rfl⟩
  have HE := hide hE
  rw [hE]
  clear hE
  go_enter Tryd.func45, Tryd.ntmps45
  have HK0 := hide ((((Kept.refl [] w).alloc (.cells (brow l) 26)).alloc (.cells (brow m) 26)).alloc (.cells (zb 32) 26))
  have HGZ := hide (alloc3_at w (.cells (brow l) 26) (.cells (brow m) 26) (.cells (zb 32) 26))
  have HGM := hide (((Kept.refl [] ((w.alloc (.cells (brow l) 26)).alloc (.cells (brow m) 26))).alloc (.cells (zb 32) 26)).heap (alloc_at w (.cells (brow l) 26) (.cells (brow m) 26)) (by simp))
  have HGL := hide ((((Kept.refl [] (w.alloc (.cells (brow l) 26))).alloc (.cells (brow m) 26)).alloc (.cells (zb 32) 26)).heap (heap_alloc_new w (.cells (brow l) 26)) (by simp))
  have HSL := hide (by rw [List.length_map, hl]; exact Tryd.size_dig : (Tryd.prog.info? 26).map (·.size) = some (l.map u8).length)
  have HSM := hide (by rw [List.length_map, hm]; exact Tryd.size_dig : (Tryd.prog.info? 26).map (·.size) = some (m.map u8).length)
  go_wp2_with (first
    | (refine wpList_load_mid rfl 26 _ rfl w.heap.size 0 rfl (l.map u8) _ (range_row (unhide HGL)) Tryd.underlying26 rfl (unhide HSL) ?_)
    | (refine wpList_load_mid rfl 26 _ rfl (w.heap.size + 1) 0 rfl (m.map u8) _ (range_row (unhide HGM)) Tryd.underlying26 rfl (unhide HSM) ?_))
  refine Calls.mono (nodeInput_any z l m _ hz hl hm (unhide HB) (unhide HB2)) ?_
  rintro e w1 ⟨v1, rfl, n1, k1⟩
  rw [unhide HF] at n1 ⊢
  have HR1 := hide n1.1
  obtain ⟨a1, m1, c1, hu1, hm1, _⟩ := id n1.1
  subst hu1
  have HZ1 := hide (k1.heap (unhide HGZ) (by simp))
  have HK1 := hide ((unhide HK0).trans k1 (by simp))
  clear n1 k1 hm1 HGL HGM
  go_wp2_with fail
  refine Calls.mono (sumUnless_any f z _ _ w1 hz (unhide HR1) ((unhide HT).k (unhide HK1))) ?_
  rintro e w2 ⟨rfl, k2⟩
  rw [unhide HX, unhide HE]
  have HZ2 := hide (k2.heap (unhide HZ1) (by simp))
  have HK2 := hide ((unhide HK1).trans k2 (by simp))
  clear k2
  go_wp2_with (refine wpList_store_row rfl 26 _ _ rfl (w.heap.size + 1 + 1) (brow D) rfl rfl _ (zb 32) (unhide HZ2) (by rw [brow_size, hcl]; exact Tryd.size_dig) (by rw [zb_size, brow_size, hcl]) (brow_one _) ?_)
  refine bodyPost_ret (v := .tuple #[.agg (brow D), .int .i64 E]) ?_ rfl ⟨rfl, (unhide HK2).setRow (by simp; omega) _⟩
  exact results_cell_tmp rfl _ _ (w.heap.size + 1 + 1) _ (brow D) (0, 0) _ rfl (setRow_heap _ _ _ _ _ _ (unhide HZ2)) Tryd.underlying26 rfl (by rw [brow_size, hcl]; exact Tryd.size_dig) _ rfl

set_option maxRecDepth 100000 in
set_option maxHeartbeats 1000000 in
theorem root_all (z : Int) (s : Nat) (l m : List Nat) (w : World) (hz : -9223372036854775808 ≤ z ∧ z ≤ 9223372036854775807) (hs : s < 18446744073709551616) (hl : l.length = 32) (hm : m.length = 32) (hlb : ∀ x ∈ l, x < 256) (hmb : ∀ x ∈ m, x < 256) (hT : Tabs w) :
    Calls Tryd.prog 49 #[.int .i64 z, .agg (rootC s l m).toArray] w fun e w' => e = .returned (.tuple #[.agg (brow (sunD (formedE z [l, m]) z (rootB z s l m))), .int .i64 (sunE (formedE z [l, m]) z)]) ∧ Kept [] w w' := by
  have HT := hide hT
  have HB := hide hlb
  have HB2 := hide hmb
  clear hT hlb hmb
  have hcl := sunD_len (formedE z [l, m]) z (rootB z s l m)
  have HX := hide (by unfold sunD; by_cases h9 : formedE z [l, m] = 0; rw [if_pos h9, if_pos h9, if_pos h9]; rw [if_neg h9, if_neg h9] : sunD (formedE z [l, m]) z (if formedE z [l, m] = 0 then rootB z s l m else []) = sunD (formedE z [l, m]) z (rootB z s l m))
  obtain ⟨f, hf⟩ : ∃ f, formedE z [l, m] = f := ⟨_, rfl⟩
  have HF := hide hf
  rw [hf] at hcl HX ⊢
  clear hf
  obtain ⟨D, hD⟩ : ∃ D, sunD f z (rootB z s l m) = D := ⟨_, rfl⟩
  have HD := hide hD
  rw [hD] at hcl HX ⊢
  clear hD
  obtain ⟨E, hE⟩ : ∃ E, sunE f z = E := ⟨_, rfl⟩
  have HE := hide hE
  rw [hE]
  clear hE
  have HSO := hide (by rw [List.size_toArray, show (rootC s l m).length = 65 by simp [rootC, hl, hm]]; kernel_rfl : (Tryd.prog.info? 32).map (·.size) = some (rootC s l m).toArray.size)
  obtain ⟨C, hC⟩ : ∃ C, (rootC s l m).toArray = C := ⟨_, rfl⟩
  have HC := hide hC
  rw [hC] at HSO ⊢
  clear hC
  go_enter Tryd.func49, Tryd.ntmps49
  have HK0 := hide (((Kept.refl [] w).alloc (.cells C 32)).alloc (.cells (zb 32) 26))
  have HGZ := hide (alloc_at w (.cells C 32) (.cells (zb 32) 26))
  have HGL := hide (((Kept.refl [] (w.alloc (.cells C 32))).alloc (.cells (zb 32) 26)).heap (heap_alloc_new w (.cells C 32)) (by simp))
  go_wp2_with (refine wpList_load_row rfl 32 _ rfl w.heap.size rfl _ C (0, 0) _ (unhide HGL) Tryd.underlying32 rfl (unhide HSO) ?_)
  rw [zb32]
  have hri := rootInput_any z s l m ((w.alloc (.cells C 32)).alloc (.cells (zb 32) 26)) hz hs hl hm (unhide HB) (unhide HB2)
  rw [unhide HC] at hri
  refine Calls.mono hri ?_
  clear hri
  rintro e w1 ⟨v1, rfl, n1, k1⟩
  rw [unhide HF] at n1 ⊢
  have HR1 := hide n1.1
  obtain ⟨a1, m1, c1, hu1, hm1, _⟩ := id n1.1
  subst hu1
  have HZ1 := hide (k1.heap (unhide HGZ) (by simp))
  have HK1 := hide ((unhide HK0).trans k1 (by simp))
  clear n1 k1 hm1 HGL
  go_wp2_with fail
  refine Calls.mono (sumUnless_any f z _ _ w1 hz (unhide HR1) ((unhide HT).k (unhide HK1))) ?_
  rintro e w2 ⟨rfl, k2⟩
  rw [unhide HX, unhide HE]
  have HZ2 := hide (k2.heap (unhide HZ1) (by simp))
  have HK2 := hide ((unhide HK1).trans k2 (by simp))
  clear k2
  go_wp2_with (refine wpList_store_row rfl 26 _ _ rfl (w.heap.size + 1) (brow D) rfl rfl _ (zb 32) (unhide HZ2) (by rw [brow_size, hcl]; exact Tryd.size_dig) (by rw [zb_size, brow_size, hcl]) (brow_one _) ?_)
  refine bodyPost_ret (v := .tuple #[.agg (brow D), .int .i64 E]) ?_ rfl ⟨rfl, (unhide HK2).setRow (by simp) _⟩
  exact results_cell_tmp rfl _ _ (w.heap.size + 1) _ (brow D) (0, 0) _ rfl (setRow_heap _ _ _ _ _ _ (unhide HZ2)) Tryd.underlying26 rfl (by rw [brow_size, hcl]; exact Tryd.size_dig) _ rfl

end Go.Proofs.YtgnbigijpneebaaDoor
namespace Go.Proofs.YtgnbigijpneebaaDoor
open Go.RowKit Go.BigFrame
set_option linter.unusedVariables false
set_option linter.unusedSimpArgs false

def opS (o : OpD) : List Nat := sunD (inE o) o.z (inB o)
def opF (o : OpD) : Nat := sunE (inE o) o.z
theorem opS_len (o : OpD) : (opS o).length = 32 := sunD_len _ _ _

set_option maxRecDepth 100000 in
set_option maxHeartbeats 2000000 in
theorem sum_any (o : OpD) (pv kv dv : Value) (w : World) (h : OkD w o pv kv dv) (hk : 1 ≤ o.kd ∧ o.kd ≤ 6) (hT : Tabs w) :
    Calls Tryd.prog 15 #[.agg (opC o pv kv dv).toArray] w fun e w' => e = .returned (.tuple #[.agg (brow (opS o)), .int .i64 (opF o)]) ∧ Kept [] w w' := by
  have H := hide h
  have HT := hide hT
  clear hT
  obtain ⟨C, hC⟩ : ∃ C, (opC o pv kv dv).toArray = C := ⟨_, rfl⟩
  have HG := hide (heap_alloc_new w (.cells C 34))
  rw [← hC] at HG
  obtain ⟨⟨c0, c1, c2⟩, r3, r35, ⟨c67, c68, c69⟩, r70⟩ := op_cells (unhide HG) h.l.1 h.r.1
  rw [hC] at HG c0 c1 c2 r3 r35 c67 c68 c69 r70 ⊢
  clear hC
  have HK0 := hide (((Kept.refl [] w).alloc (.cells C 34)).alloc (.cells (zb 32) 26))
  have k00 := (Kept.refl [] (w.alloc (.cells C 34))).alloc (.cells (zb 32) 26)
  have HGZ := hide (alloc_at w (.cells C 34) (.cells (zb 32) 26))
  have HH := hide (h.old (unhide HK0))
  have HTT := hide ((unhide HT).k (unhide HK0))
  have R3 := hide (range_kept r3 k00 (by simp))
  have R35 := hide (range_kept r35 k00 (by simp))
  have R70 := hide (range_kept r70 k00 (by simp))
  clear r3 r35 r70 h k00
  have q0 : ∀ ob, ((w.alloc (.cells C 34)).alloc ob).cell? ⟨w.heap.size, 0, none⟩ = some (.int .i64 o.kd) := fun ob => ((Kept.refl [] _).alloc ob).cell c0 (by simp)
  have q1 : ∀ ob, ((w.alloc (.cells C 34)).alloc ob).cell? ⟨w.heap.size, 1, none⟩ = some (.int .i64 o.z) := fun ob => ((Kept.refl [] _).alloc ob).cell c1 (by simp)
  have q2 : ∀ ob, ((w.alloc (.cells C 34)).alloc ob).cell? ⟨w.heap.size, 2, none⟩ = some pv := fun ob => ((Kept.refl [] _).alloc ob).cell c2 (by simp)
  have q67 : ∀ ob, ((w.alloc (.cells C 34)).alloc ob).cell? ⟨w.heap.size, 67, none⟩ = some kv := fun ob => ((Kept.refl [] _).alloc ob).cell c67 (by simp)
  have q68 : ∀ ob, ((w.alloc (.cells C 34)).alloc ob).cell? ⟨w.heap.size, 68, none⟩ = some (.int .u16 (o.x : Int)) := fun ob => ((Kept.refl [] _).alloc ob).cell c68 (by simp)
  have q69 : ∀ ob, ((w.alloc (.cells C 34)).alloc ob).cell? ⟨w.heap.size, 69, none⟩ = some dv := fun ob => ((Kept.refl [] _).alloc ob).cell c69 (by simp)
  clear c0 c1 c2 c67 c68 c69
  have HSL := hide (by rw [List.length_map, (unhide H).l.1]; exact Tryd.size_dig : (Tryd.prog.info? 26).map (·.size) = some (o.l.map u8).length)
  have HSR := hide (by rw [List.length_map, (unhide H).r.1]; exact Tryd.size_dig : (Tryd.prog.info? 26).map (·.size) = some (o.r.map u8).length)
  have HSO := hide (by rw [show (rootC o.s o.lg o.mp).length = 65 by simp [rootC, (unhide H).lg.1, (unhide H).mp.1]]; kernel_rfl : (Tryd.prog.info? 32).map (·.size) = some (rootC o.s o.lg o.mp).length)
  have HZ := hide (unhide H).z
  have hcl := opS_len o
  obtain ⟨D, hD⟩ : ∃ D, opS o = D := ⟨_, rfl⟩
  have HD := hide hD
  rw [hD] at hcl ⊢
  clear hD
  obtain ⟨E, hE⟩ : ∃ E, opF o = E := ⟨_, rfl⟩
  have HE := hide hE
  rw [hE]
  clear hE
  have HF := hide (fun (w1 : World) (k1 : Kept [] ((w.alloc (.cells C 34)).alloc (.cells (zb 32) 26)) w1) => ⟨k1.heap (unhide HGZ) (by simp), (unhide HK0).trans k1 (by simp)⟩ : ∀ w1, Kept [] ((w.alloc (.cells C 34)).alloc (.cells (zb 32) 26)) w1 → w1.heap[w.heap.size + 1]? = some (.cells (zb 32) 26) ∧ Kept [] w w1)
  go_enter Tryd.func15, Tryd.ntmps15
  clear HG HGZ
  rcases (by omega : o.kd = 1 ∨ o.kd = 2 ∨ o.kd = 3 ∨ o.kd = 4 ∨ o.kd = 5 ∨ o.kd = 6) with hkd | hkd | hkd | hkd | hkd | hkd
  · rw [hkd] at q0
    have HE2 := hide (by rw [← unhide HE]; simp [opF, inE, hkd, sunE] : E = sumE o.z)
    have HD2 := hide (by rw [← unhide HD]; simp [opS, inE, inB, hkd, sunD] : D = sumD o.z (0 :: o.p))
    clear hkd hk
    go_wp2_with fail
    rw [zb32]
    refine Calls.mono (leaf_all o.z _ o.p _ (unhide HZ) (unhide HH).p (by have := (unhide H).pl; omega) (unhide HTT)) ?_
    rintro e w1 ⟨rfl, k1⟩
    rw [← unhide HD2, ← unhide HE2]
    have HZ2 := hide (unhide HF w1 k1).1
    have HK2 := hide (unhide HF w1 k1).2
    clear k1
    go_wp2_with (refine wpList_store_row rfl 26 _ _ rfl (w.heap.size + 1) (brow D) rfl rfl _ (zb 32) (unhide HZ2) (by rw [brow_size, hcl]; exact Tryd.size_dig) (by rw [zb_size, brow_size, hcl]) (brow_one _) ?_)
    refine bodyPost_ret (v := .tuple #[.agg (brow D), .int .i64 E]) ?_ rfl ⟨rfl, (unhide HK2).setRow (by simp) _⟩
    exact results_cell_tmp rfl _ _ (w.heap.size + 1) _ (brow D) (0, 0) _ rfl (setRow_heap _ _ _ _ _ _ (unhide HZ2)) Tryd.underlying26 rfl (by rw [brow_size, hcl]; exact Tryd.size_dig) _ rfl
  · rw [hkd] at q0
    have HE2 := hide (by rw [← unhide HE]; simp [opF, inE, hkd] : E = sunE (formedE o.z [o.l, o.r]) o.z)
    have HD2 := hide (by rw [← unhide HD]; simp [opS, inE, inB, hkd] : D = sunD (formedE o.z [o.l, o.r]) o.z (nodeB o.z o.l o.r))
    clear hkd hk
    go_wp2_with (first
      | (refine wpList_load_mid rfl 26 _ rfl w.heap.size 3 rfl (o.l.map u8) _ (unhide R3) Tryd.underlying26 rfl (unhide HSL) ?_)
      | (refine wpList_load_mid rfl 26 _ rfl w.heap.size 35 rfl (o.r.map u8) _ (unhide R35) Tryd.underlying26 rfl (unhide HSR) ?_))
    refine Calls.mono (node_all o.z o.l o.r _ (unhide HZ) (unhide H).l.1 (unhide H).r.1 (unhide H).l.2 (unhide H).r.2 (unhide HTT)) ?_
    rintro e w1 ⟨rfl, k1⟩
    rw [← unhide HD2, ← unhide HE2]
    have HZ2 := hide (unhide HF w1 k1).1
    have HK2 := hide (unhide HF w1 k1).2
    clear k1
    go_wp2_with (refine wpList_store_row rfl 26 _ _ rfl (w.heap.size + 1) (brow D) rfl rfl _ (zb 32) (unhide HZ2) (by rw [brow_size, hcl]; exact Tryd.size_dig) (by rw [zb_size, brow_size, hcl]) (brow_one _) ?_)
    refine bodyPost_ret (v := .tuple #[.agg (brow D), .int .i64 E]) ?_ rfl ⟨rfl, (unhide HK2).setRow (by simp) _⟩
    exact results_cell_tmp rfl _ _ (w.heap.size + 1) _ (brow D) (0, 0) _ rfl (setRow_heap _ _ _ _ _ _ (unhide HZ2)) Tryd.underlying26 rfl (by rw [brow_size, hcl]; exact Tryd.size_dig) _ rfl
  · rw [hkd] at q0
    have HE2 := hide (by rw [← unhide HE]; simp [opF, inE, hkd, sunE] : E = sumE o.z)
    have HD2 := hide (by rw [← unhide HD]; simp [opS, inE, inB, hkd, sunD] : D = sumD o.z (2 :: o.p))
    clear hkd hk
    go_wp2_with fail
    rw [zb32]
    refine Calls.mono (key_all o.z _ o.p _ (unhide HZ) (unhide HH).p (by have := (unhide H).pl; omega) (unhide HTT)) ?_
    rintro e w1 ⟨rfl, k1⟩
    rw [← unhide HD2, ← unhide HE2]
    have HZ2 := hide (unhide HF w1 k1).1
    have HK2 := hide (unhide HF w1 k1).2
    clear k1
    go_wp2_with (refine wpList_store_row rfl 26 _ _ rfl (w.heap.size + 1) (brow D) rfl rfl _ (zb 32) (unhide HZ2) (by rw [brow_size, hcl]; exact Tryd.size_dig) (by rw [zb_size, brow_size, hcl]) (brow_one _) ?_)
    refine bodyPost_ret (v := .tuple #[.agg (brow D), .int .i64 E]) ?_ rfl ⟨rfl, (unhide HK2).setRow (by simp) _⟩
    exact results_cell_tmp rfl _ _ (w.heap.size + 1) _ (brow D) (0, 0) _ rfl (setRow_heap _ _ _ _ _ _ (unhide HZ2)) Tryd.underlying26 rfl (by rw [brow_size, hcl]; exact Tryd.size_dig) _ rfl
  · rw [hkd] at q0
    have HE2 := hide (by rw [← unhide HE]; simp [opF, inE, hkd, sunE] : E = sumE o.z)
    have HD2 := hide (by rw [← unhide HD]; simp [opS, inE, inB, hkd, sunD] : D = sumD o.z (buckB o.ps))
    clear hkd hk
    go_wp2_with fail
    rw [zb32]
    refine Calls.mono (bucket_all o.z _ o.ps _ (unhide HZ) (unhide HH).ps (unhide H).psl (unhide HTT)) ?_
    rintro e w1 ⟨rfl, k1⟩
    rw [← unhide HD2, ← unhide HE2]
    have HZ2 := hide (unhide HF w1 k1).1
    have HK2 := hide (unhide HF w1 k1).2
    clear k1
    go_wp2_with (refine wpList_store_row rfl 26 _ _ rfl (w.heap.size + 1) (brow D) rfl rfl _ (zb 32) (unhide HZ2) (by rw [brow_size, hcl]; exact Tryd.size_dig) (by rw [zb_size, brow_size, hcl]) (brow_one _) ?_)
    refine bodyPost_ret (v := .tuple #[.agg (brow D), .int .i64 E]) ?_ rfl ⟨rfl, (unhide HK2).setRow (by simp) _⟩
    exact results_cell_tmp rfl _ _ (w.heap.size + 1) _ (brow D) (0, 0) _ rfl (setRow_heap _ _ _ _ _ _ (unhide HZ2)) Tryd.underlying26 rfl (by rw [brow_size, hcl]; exact Tryd.size_dig) _ rfl
  · rw [hkd] at q0
    have HE2 := hide (by rw [← unhide HE]; simp [opF, inE, hkd] : E = sunE (branchE o.z o.x o.ds) o.z)
    have HD2 := hide (by rw [← unhide HD]; simp [opS, inE, inB, hkd] : D = sunD (branchE o.z o.x o.ds) o.z (branchB o.z o.x o.ds))
    clear hkd hk
    go_wp2_with fail
    rw [zb32]
    refine Calls.mono (branch_all o.z o.x _ o.ds _ (unhide HZ) (unhide H).x (unhide HH).ds (unhide HTT)) ?_
    rintro e w1 ⟨rfl, k1⟩
    rw [← unhide HD2, ← unhide HE2]
    have HZ2 := hide (unhide HF w1 k1).1
    have HK2 := hide (unhide HF w1 k1).2
    clear k1
    go_wp2_with (refine wpList_store_row rfl 26 _ _ rfl (w.heap.size + 1) (brow D) rfl rfl _ (zb 32) (unhide HZ2) (by rw [brow_size, hcl]; exact Tryd.size_dig) (by rw [zb_size, brow_size, hcl]) (brow_one _) ?_)
    refine bodyPost_ret (v := .tuple #[.agg (brow D), .int .i64 E]) ?_ rfl ⟨rfl, (unhide HK2).setRow (by simp) _⟩
    exact results_cell_tmp rfl _ _ (w.heap.size + 1) _ (brow D) (0, 0) _ rfl (setRow_heap _ _ _ _ _ _ (unhide HZ2)) Tryd.underlying26 rfl (by rw [brow_size, hcl]; exact Tryd.size_dig) _ rfl
  · rw [hkd] at q0
    have HE2 := hide (by rw [← unhide HE]; simp [opF, inE, hkd] : E = sunE (formedE o.z [o.lg, o.mp]) o.z)
    have HD2 := hide (by rw [← unhide HD]; simp [opS, inE, inB, hkd] : D = sunD (formedE o.z [o.lg, o.mp]) o.z (rootB o.z o.s o.lg o.mp))
    clear hkd hk
    go_wp2_with (refine wpList_load_mid rfl 32 _ rfl w.heap.size 70 rfl (rootC o.s o.lg o.mp) _ (unhide R70) Tryd.underlying32 rfl (unhide HSO) ?_)
    refine Calls.mono (root_all o.z o.s o.lg o.mp _ (unhide HZ) (unhide H).s (unhide H).lg.1 (unhide H).mp.1 (unhide H).lg.2 (unhide H).mp.2 (unhide HTT)) ?_
    rintro e w1 ⟨rfl, k1⟩
    rw [← unhide HD2, ← unhide HE2]
    have HZ2 := hide (unhide HF w1 k1).1
    have HK2 := hide (unhide HF w1 k1).2
    clear k1
    go_wp2_with (refine wpList_store_row rfl 26 _ _ rfl (w.heap.size + 1) (brow D) rfl rfl _ (zb 32) (unhide HZ2) (by rw [brow_size, hcl]; exact Tryd.size_dig) (by rw [zb_size, brow_size, hcl]) (brow_one _) ?_)
    refine bodyPost_ret (v := .tuple #[.agg (brow D), .int .i64 E]) ?_ rfl ⟨rfl, (unhide HK2).setRow (by simp) _⟩
    exact results_cell_tmp rfl _ _ (w.heap.size + 1) _ (brow D) (0, 0) _ rfl (setRow_heap _ _ _ _ _ _ (unhide HZ2)) Tryd.underlying26 rfl (by rw [brow_size, hcl]; exact Tryd.size_dig) _ rfl
end Go.Proofs.YtgnbigijpneebaaDoor
namespace Go.Proofs.YtgnbigijpneebaaDoor
open Go.RowKit Go.BigFrame
set_option linter.unusedVariables false
set_option linter.unusedSimpArgs false

theorem inE_wide (o : OpD) (h : widthB o.z = false) : opF o = 1 := by
  unfold opF sunE
  by_cases h0 : inE o = 0
  · rw [if_pos h0]; simp [sumE, h]
  · rw [if_neg h0]
    unfold inE at h0 ⊢
    by_cases h2 : o.kd = 2
    · rw [if_pos h2]; simp [formedE, h]
    · rw [if_neg h2] at h0 ⊢
      by_cases h5 : o.kd = 5
      · rw [if_pos h5]; simp [branchE, formedE, h]
      · rw [if_neg h5] at h0 ⊢
        by_cases h1 : o.kd = 1 ∨ o.kd = 3 ∨ o.kd = 4
        · rw [if_pos h1] at h0; exact absurd rfl h0
        · rw [if_neg h1]; simp [formedE, h]
theorem opS_bad (o : OpD) (h : opF o ≠ 0) : opS o = List.replicate 32 0 := by
  unfold opF sunE at h
  unfold opS sunD
  by_cases h0 : inE o = 0
  · rw [if_pos h0] at h ⊢
    cases hw : widthB o.z with
    | false => simp [sumD, hw]
    | true => simp [sumE, hw] at h
  · rw [if_neg h0]
theorem opF_wide (o : OpD) (h : widthB o.z = true) : opF o = inE o := by
  unfold opF sunE
  by_cases h0 : inE o = 0
  · rw [if_pos h0, h0]; simp [sumE, h]
  · rw [if_neg h0]

set_option maxRecDepth 100000 in
set_option maxHeartbeats 2000000 in
theorem docSumOp_any (o : OpD) (pv kv dv : Value) (w : World) (h : OkD w o pv kv dv) (hk : 1 ≤ o.kd ∧ o.kd ≤ 6) :
    Calls Tryd.prog 16 #[.agg (opC o pv kv dv).toArray] w fun e w' => e = .returned (.tuple #[.agg (brow (opS o)), .int .i64 (opF o)]) ∧ Kept [] w w' := by
  have H := hide h
  have hcl := opS_len o
  have HSA := hide (by rw [List.size_toArray, opC_len h.l.1 h.r.1 h.lg.1 h.mp.1]; exact Tryd.size_op : (Tryd.prog.info? 34).map (·.size) = some (opC o pv kv dv).toArray.size)
  obtain ⟨C, hC⟩ : ∃ C, (opC o pv kv dv).toArray = C := ⟨_, rfl⟩
  have HG := hide (heap_alloc_new w (.cells C 34))
  rw [← hC] at HG
  obtain ⟨⟨_, c1, _⟩, _⟩ := op_cells (unhide HG) h.l.1 h.r.1
  have HC := hide hC
  rw [hC] at HG HSA c1 ⊢
  clear hC
  have HK0 := hide (((Kept.refl [] w).alloc (.cells C 34)).alloc (.cells (zb 32) 26))
  have HGC := hide (((Kept.refl [] (w.alloc (.cells C 34))).alloc (.cells (zb 32) 26)).heap (unhide HG) (by simp))
  have HGZ := hide (alloc_at w (.cells C 34) (.cells (zb 32) 26))
  have HC1 := hide (((Kept.refl [] (w.alloc (.cells C 34))).alloc (.cells (zb 32) 26)).cell c1 (by simp))
  have q1 : ∀ ob, ((w.alloc (.cells C 34)).alloc ob).cell? ⟨w.heap.size, 1, none⟩ = some (.int .i64 o.z) := fun ob => ((Kept.refl [] _).alloc ob).cell c1 (by simp)
  have HH := hide (h.old (unhide HK0))
  clear h c1
  have HZ := hide (unhide H).z
  obtain ⟨D, hD⟩ : ∃ D, opS o = D := ⟨_, rfl⟩
  have HD := hide hD
  rw [hD] at hcl ⊢
  clear hD
  obtain ⟨E, hE⟩ : ∃ E, opF o = E := ⟨_, rfl⟩
  have HE := hide hE
  rw [hE]
  clear hE
  go_enter Tryd.func16, Tryd.ntmps16
  clear HG
  go_wp2_with (refine wpList_load_row rfl 34 _ rfl w.heap.size rfl _ C (0, 0) _ (unhide HGC) Tryd.underlying34 rfl (unhide HSA) ?_)
  have hdc := doc_any o pv kv dv ((w.alloc (.cells C 34)).alloc (.cells (zb 32) 26)) (unhide HH) hk
  rw [unhide HC] at hdc
  refine Calls.mono hdc ?_
  rintro e w1 ⟨v1, rfl, r1, k1⟩
  clear hdc
  have d1 := k1.cell (unhide HC1) (by simp)
  have HZ1 := hide (k1.heap (unhide HGZ) (by simp))
  have HK1 := hide ((unhide HK0).trans k1 (by simp))
  have HR1 := hide r1
  obtain ⟨a1, m1, cc1, hu1, hm1, _⟩ := id r1
  subst hu1
  clear r1 k1 hm1 HGC HGZ HC1
  obtain ⟨I, hI⟩ : ∃ I, inE o = I := ⟨_, rfl⟩
  have HI := hide hI
  rw [hI] at HR1 ⊢
  clear hI
  go_wp2_with fail
  refine Calls.mono (rwidth_any o.z _ (unhide HZ)) ?_
  rintro e w2 ⟨rfl, rfl⟩
  cases hw : widthB o.z with
  | false =>
    have HE2 := hide (by rw [← unhide HE]; exact inE_wide o hw : E = 1)
    have HD2 := hide (by rw [← unhide HD]; exact opS_bad o (by rw [inE_wide o hw]; decide) : D = List.replicate 32 0)
    go_wp2_with (refine wpList_store_row rfl 26 _ _ rfl (w.heap.size + 1) (zb 32) rfl rfl _ (zb 32) (unhide HZ1) (by rw [zb_size]; exact Tryd.size_dig) rfl (brow_one _) ?_)
    rw [unhide HD2, unhide HE2]
    refine bodyPost_ret (v := .tuple #[.agg (zb 32), .int .i64 1]) ?_ rfl ⟨rfl, (unhide HK1).setRow (by simp) _⟩
    exact results_cell_tmp rfl _ _ (w.heap.size + 1) _ (zb 32) (0, 0) _ rfl (setRow_heap _ _ _ _ _ _ (unhide HZ1)) Tryd.underlying26 rfl (by rw [zb_size]; exact Tryd.size_dig) _ rfl
  | true =>
    have HEI := hide (by rw [← unhide HE, ← unhide HI]; exact opF_wide o hw : E = I)
    have hwd := width_le hw
    by_cases hi : I = 0
    · have hb : ((I : Int) != 0) = false := by rw [hi]; rfl
      have HD2 := hide (by rw [← unhide HD]; unfold opS sunD; rw [unhide HI, if_pos hi]; simp [sumD, hw] : D = cutL o.z.toNat (hash (inB o)))
      have HI0 := hide hi
      rw [if_pos hi] at HR1
      clear hi
      have hz9 : ((o.z.toNat : Nat) : Int) = o.z := Int.toNat_of_nonneg (by omega)
      have HZ9 := hide hz9
      clear hz9
      go_wp2_with fail
      have hc := refCut_any o.z.toNat _ _ _ (unhide HR1) (by omega)
      rw [unhide HZ9] at hc
      refine Calls.mono hc ?_
      rintro e w3 ⟨rfl, k3⟩
      rw [← unhide HD2]
      have HZ3 := hide (k3.heap (unhide HZ1) (by simp))
      have HK3 := hide ((unhide HK1).trans k3 (by simp))
      clear k3 hc
      go_wp2_with (refine wpList_store_row rfl 26 _ _ rfl (w.heap.size + 1) (brow D) rfl rfl _ (zb 32) (unhide HZ3) (by rw [brow_size, hcl]; exact Tryd.size_dig) (by rw [zb_size, brow_size, hcl]) (brow_one _) ?_)
      rw [unhide HEI, unhide HI0]
      refine bodyPost_ret (v := .tuple #[.agg (brow D), .int .i64 0]) ?_ rfl ⟨rfl, (unhide HK3).setRow (by simp) _⟩
      exact results_cell_tmp rfl _ _ (w.heap.size + 1) _ (brow D) (0, 0) _ rfl (setRow_heap _ _ _ _ _ _ (unhide HZ3)) Tryd.underlying26 rfl (by rw [brow_size, hcl]; exact Tryd.size_dig) _ rfl
    · have hb : ((I : Int) != 0) = true := by rw [bne_iff_ne]; omega
      have HD2 := hide (by rw [← unhide HD]; exact opS_bad o (by rw [unhide HE, unhide HEI]; exact hi) : D = List.replicate 32 0)
      have HI0 := hide hi
      clear hi
      go_wp2_with (refine wpList_store_row rfl 26 _ _ rfl (w.heap.size + 1) (zb 32) rfl rfl _ (zb 32) (unhide HZ1) (by rw [zb_size]; exact Tryd.size_dig) rfl (brow_one _) ?_)
      rw [unhide HD2, unhide HEI]
      refine bodyPost_ret (v := .tuple #[.agg (zb 32), .int .i64 I]) ?_ rfl ⟨rfl, (unhide HK1).setRow (by simp) _⟩
      exact results_cell_tmp rfl _ _ (w.heap.size + 1) _ (zb 32) (0, 0) _ rfl (setRow_heap _ _ _ _ _ _ (unhide HZ1)) Tryd.underlying26 rfl (by rw [zb_size]; exact Tryd.size_dig) _ rfl
end Go.Proofs.YtgnbigijpneebaaDoor
