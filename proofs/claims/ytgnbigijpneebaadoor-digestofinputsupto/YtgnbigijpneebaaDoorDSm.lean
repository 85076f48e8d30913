import Derived.Test.YtgnbigijpneebaaDoorDNrt
namespace Go.Proofs.YtgnbigijpneebaaDoor
open Go.RowKit Go.BigFrame
set_option linter.unusedVariables false
set_option linter.unusedSimpArgs false

def opS (o : OpD) : List Nat := sunD (inE o) o.z (inB o)
def opF (o : OpD) : Nat := sunE (inE o) o.z
theorem opS_len (o : OpD) : (opS o).length = 32 := sunD_len _ _ _

set_option maxRecDepth 100000 in
set_option maxHeartbeats 2000000 in
theorem sum_any (o : OpD) (pv kv dv : Value) (w : World) (h : OkD w o pv kv dv) (hk : 1 ≤ o.kd ∧ o.kd ≤ 6) (hT : Tabs w) :
    Calls Tryd.prog 15 #[.agg (opC o pv kv dv).toArray] w fun e w' => e = .returned (.tuple #[.agg (brow (opS o)), .int .i64 (opF o)]) ∧ Kept [] w w' := by
  have H := hide h
  have HT := hide hT
  clear hT
  obtain ⟨C, hC⟩ : ∃ C, (opC o pv kv dv).toArray = C := ⟨_, rfl⟩
  have HG := hide (heap_alloc_new w (.cells C 34))
  rw [← hC] at HG
  obtain ⟨⟨c0, c1, c2⟩, r3, r35, ⟨c67, c68, c69⟩, r70⟩ := op_cells (unhide HG) h.l.1 h.r.1
  rw [hC] at HG c0 c1 c2 r3 r35 c67 c68 c69 r70 ⊢
  clear hC
  have HK0 := hide (((Kept.refl [] w).alloc (.cells C 34)).alloc (.cells (zb 32) 26))
  have k00 := (Kept.refl [] (w.alloc (.cells C 34))).alloc (.cells (zb 32) 26)
  have HGZ := hide (alloc_at w (.cells C 34) (.cells (zb 32) 26))
  have HH := hide (h.old (unhide HK0))
  have HTT := hide ((unhide HT).k (unhide HK0))
  have R3 := hide (range_kept r3 k00 (by simp))
  have R35 := hide (range_kept r35 k00 (by simp))
  have R70 := hide (range_kept r70 k00 (by simp))
  clear r3 r35 r70 h k00
  have q0 : ∀ ob, ((w.alloc (.cells C 34)).alloc ob).cell? ⟨w.heap.size, 0, none⟩ = some (.int .i64 o.kd) := fun ob => ((Kept.refl [] _).alloc ob).cell c0 (by simp)
  have q1 : ∀ ob, ((w.alloc (.cells C 34)).alloc ob).cell? ⟨w.heap.size, 1, none⟩ = some (.int .i64 o.z) := fun ob => ((Kept.refl [] _).alloc ob).cell c1 (by simp)
  have q2 : ∀ ob, ((w.alloc (.cells C 34)).alloc ob).cell? ⟨w.heap.size, 2, none⟩ = some pv := fun ob => ((Kept.refl [] _).alloc ob).cell c2 (by simp)
  have q67 : ∀ ob, ((w.alloc (.cells C 34)).alloc ob).cell? ⟨w.heap.size, 67, none⟩ = some kv := fun ob => ((Kept.refl [] _).alloc ob).cell c67 (by simp)
  have q68 : ∀ ob, ((w.alloc (.cells C 34)).alloc ob).cell? ⟨w.heap.size, 68, none⟩ = some (.int .u16 (o.x : Int)) := fun ob => ((Kept.refl [] _).alloc ob).cell c68 (by simp)
  have q69 : ∀ ob, ((w.alloc (.cells C 34)).alloc ob).cell? ⟨w.heap.size, 69, none⟩ = some dv := fun ob => ((Kept.refl [] _).alloc ob).cell c69 (by simp)
  clear c0 c1 c2 c67 c68 c69
  have HSL := hide (by rw [List.length_map, (unhide H).l.1]; exact Tryd.size_dig : (Tryd.prog.info? 26).map (·.size) = some (o.l.map u8).length)
  have HSR := hide (by rw [List.length_map, (unhide H).r.1]; exact Tryd.size_dig : (Tryd.prog.info? 26).map (·.size) = some (o.r.map u8).length)
  have HSO := hide (by rw [show (rootC o.s o.lg o.mp).length = 65 by simp [rootC, (unhide H).lg.1, (unhide H).mp.1]]; kernel_rfl : (Tryd.prog.info? 32).map (·.size) = some (rootC o.s o.lg o.mp).length)
  have HZ := hide (unhide H).z
  have hcl := opS_len o
  obtain ⟨D, hD⟩ : ∃ D, opS o = D := ⟨_, rfl⟩
  have HD := hide hD
  rw [hD] at hcl ⊢
  clear hD
  obtain ⟨E, hE⟩ : ∃ E, opF o = E := ⟨_, rfl⟩
  have HE := hide hE
  rw [hE]
  clear hE
  have HF := hide (fun (w1 : World) (k1 : Kept [] ((w.alloc (.cells C 34)).alloc (.cells (zb 32) 26)) w1) => ⟨k1.heap (unhide HGZ) (by simp), (unhide HK0).trans k1 (by simp)⟩ : ∀ w1, Kept [] ((w.alloc (.cells C 34)).alloc (.cells (zb 32) 26)) w1 → w1.heap[w.heap.size + 1]? = some (.cells (zb 32) 26) ∧ Kept [] w w1)
  go_enter Tryd.func15, Tryd.ntmps15
  clear HG HGZ
  rcases (by omega : o.kd = 1 ∨ o.kd = 2 ∨ o.kd = 3 ∨ o.kd = 4 ∨ o.kd = 5 ∨ o.kd = 6) with hkd | hkd | hkd | hkd | hkd | hkd
  · rw [hkd] at q0
    have HE2 := hide (by rw [← unhide HE]; simp [opF, inE, hkd, sunE] : E = sumE o.z)
    have HD2 := hide (by rw [← unhide HD]; simp [opS, inE, inB, hkd, sunD] : D = sumD o.z (0 :: o.p))
    clear hkd hk
    go_wp2_with fail
    rw [zb32]
    refine Calls.mono (leaf_all o.z _ o.p _ (unhide HZ) (unhide HH).p (by have := (unhide H).pl; omega) (unhide HTT)) ?_
    rintro e w1 ⟨rfl, k1⟩
    rw [← unhide HD2, ← unhide HE2]
    have HZ2 := hide (unhide HF w1 k1).1
    have HK2 := hide (unhide HF w1 k1).2
    clear k1
    go_wp2_with (refine wpList_store_row rfl 26 _ _ rfl (w.heap.size + 1) (brow D) rfl rfl _ (zb 32) (unhide HZ2) (by rw [brow_size, hcl]; exact Tryd.size_dig) (by rw [zb_size, brow_size, hcl]) (brow_one _) ?_)
    refine bodyPost_ret (v := .tuple #[.agg (brow D), .int .i64 E]) ?_ rfl ⟨rfl, (unhide HK2).setRow (by simp) _⟩
    exact results_cell_tmp rfl _ _ (w.heap.size + 1) _ (brow D) (0, 0) _ rfl (setRow_heap _ _ _ _ _ _ (unhide HZ2)) Tryd.underlying26 rfl (by rw [brow_size, hcl]; exact Tryd.size_dig) _ rfl
  · rw [hkd] at q0
    have HE2 := hide (by rw [← unhide HE]; simp [opF, inE, hkd] : E = sunE (formedE o.z [o.l, o.r]) o.z)
    have HD2 := hide (by rw [← unhide HD]; simp [opS, inE, inB, hkd] : D = sunD (formedE o.z [o.l, o.r]) o.z (nodeB o.z o.l o.r))
    clear hkd hk
    go_wp2_with (first
      | (refine wpList_load_mid rfl 26 _ rfl w.heap.size 3 rfl (o.l.map u8) _ (unhide R3) Tryd.underlying26 rfl (unhide HSL) ?_)
      | (refine wpList_load_mid rfl 26 _ rfl w.heap.size 35 rfl (o.r.map u8) _ (unhide R35) Tryd.underlying26 rfl (unhide HSR) ?_))
    refine Calls.mono (node_all o.z o.l o.r _ (unhide HZ) (unhide H).l.1 (unhide H).r.1 (unhide H).l.2 (unhide H).r.2 (unhide HTT)) ?_
    rintro e w1 ⟨rfl, k1⟩
    rw [← unhide HD2, ← unhide HE2]
    have HZ2 := hide (unhide HF w1 k1).1
    have HK2 := hide (unhide HF w1 k1).2
    clear k1
    go_wp2_with (refine wpList_store_row rfl 26 _ _ rfl (w.heap.size + 1) (brow D) rfl rfl _ (zb 32) (unhide HZ2) (by rw [brow_size, hcl]; exact Tryd.size_dig) (by rw [zb_size, brow_size, hcl]) (brow_one _) ?_)
    refine bodyPost_ret (v := .tuple #[.agg (brow D), .int .i64 E]) ?_ rfl ⟨rfl, (unhide HK2).setRow (by simp) _⟩
    exact results_cell_tmp rfl _ _ (w.heap.size + 1) _ (brow D) (0, 0) _ rfl (setRow_heap _ _ _ _ _ _ (unhide HZ2)) Tryd.underlying26 rfl (by rw [brow_size, hcl]; exact Tryd.size_dig) _ rfl
  · rw [hkd] at q0
    have HE2 := hide (by rw [← unhide HE]; simp [opF, inE, hkd, sunE] : E = sumE o.z)
    have HD2 := hide (by rw [← unhide HD]; simp [opS, inE, inB, hkd, sunD] : D = sumD o.z (2 :: o.p))
    clear hkd hk
    go_wp2_with fail
    rw [zb32]
    refine Calls.mono (key_all o.z _ o.p _ (unhide HZ) (unhide HH).p (by have := (unhide H).pl; omega) (unhide HTT)) ?_
    rintro e w1 ⟨rfl, k1⟩
    rw [← unhide HD2, ← unhide HE2]
    have HZ2 := hide (unhide HF w1 k1).1
    have HK2 := hide (unhide HF w1 k1).2
    clear k1
    go_wp2_with (refine wpList_store_row rfl 26 _ _ rfl (w.heap.size + 1) (brow D) rfl rfl _ (zb 32) (unhide HZ2) (by rw [brow_size, hcl]; exact Tryd.size_dig) (by rw [zb_size, brow_size, hcl]) (brow_one _) ?_)
    refine bodyPost_ret (v := .tuple #[.agg (brow D), .int .i64 E]) ?_ rfl ⟨rfl, (unhide HK2).setRow (by simp) _⟩
    exact results_cell_tmp rfl _ _ (w.heap.size + 1) _ (brow D) (0, 0) _ rfl (setRow_heap _ _ _ _ _ _ (unhide HZ2)) Tryd.underlying26 rfl (by rw [brow_size, hcl]; exact Tryd.size_dig) _ rfl
  · rw [hkd] at q0
    have HE2 := hide (by rw [← unhide HE]; simp [opF, inE, hkd, sunE] : E = sumE o.z)
    have HD2 := hide (by rw [← unhide HD]; simp [opS, inE, inB, hkd, sunD] : D = sumD o.z (buckB o.ps))
    clear hkd hk
    go_wp2_with fail
    rw [zb32]
    refine Calls.mono (bucket_all o.z _ o.ps _ (unhide HZ) (unhide HH).ps (unhide H).psl (unhide HTT)) ?_
    rintro e w1 ⟨rfl, k1⟩
    rw [← unhide HD2, ← unhide HE2]
    have HZ2 := hide (unhide HF w1 k1).1
    have HK2 := hide (unhide HF w1 k1).2
    clear k1
    go_wp2_with (refine wpList_store_row rfl 26 _ _ rfl (w.heap.size + 1) (brow D) rfl rfl _ (zb 32) (unhide HZ2) (by rw [brow_size, hcl]; exact Tryd.size_dig) (by rw [zb_size, brow_size, hcl]) (brow_one _) ?_)
    refine bodyPost_ret (v := .tuple #[.agg (brow D), .int .i64 E]) ?_ rfl ⟨rfl, (unhide HK2).setRow (by simp) _⟩
    exact results_cell_tmp rfl _ _ (w.heap.size + 1) _ (brow D) (0, 0) _ rfl (setRow_heap _ _ _ _ _ _ (unhide HZ2)) Tryd.underlying26 rfl (by rw [brow_size, hcl]; exact Tryd.size_dig) _ rfl
  · rw [hkd] at q0
    have HE2 := hide (by rw [← unhide HE]; simp [opF, inE, hkd] : E = sunE (branchE o.z o.x o.ds) o.z)
    have HD2 := hide (by rw [← unhide HD]; simp [opS, inE, inB, hkd] : D = sunD (branchE o.z o.x o.ds) o.z (branchB o.z o.x o.ds))
    clear hkd hk
    go_wp2_with fail
    rw [zb32]
    refine Calls.mono (branch_all o.z o.x _ o.ds _ (unhide HZ) (unhide H).x (unhide HH).ds (unhide HTT)) ?_
    rintro e w1 ⟨rfl, k1⟩
    rw [← unhide HD2, ← unhide HE2]
    have HZ2 := hide (unhide HF w1 k1).1
    have HK2 := hide (unhide HF w1 k1).2
    clear k1
    go_wp2_with (refine wpList_store_row rfl 26 _ _ rfl (w.heap.size + 1) (brow D) rfl rfl _ (zb 32) (unhide HZ2) (by rw [brow_size, hcl]; exact Tryd.size_dig) (by rw [zb_size, brow_size, hcl]) (brow_one _) ?_)
    refine bodyPost_ret (v := .tuple #[.agg (brow D), .int .i64 E]) ?_ rfl ⟨rfl, (unhide HK2).setRow (by simp) _⟩
    exact results_cell_tmp rfl _ _ (w.heap.size + 1) _ (brow D) (0, 0) _ rfl (setRow_heap _ _ _ _ _ _ (unhide HZ2)) Tryd.underlying26 rfl (by rw [brow_size, hcl]; exact Tryd.size_dig) _ rfl
  · rw [hkd] at q0
    have HE2 := hide (by rw [← unhide HE]; simp [opF, inE, hkd] : E = sunE (formedE o.z [o.lg, o.mp]) o.z)
    have HD2 := hide (by rw [← unhide HD]; simp [opS, inE, inB, hkd] : D = sunD (formedE o.z [o.lg, o.mp]) o.z (rootB o.z o.s o.lg o.mp))
    clear hkd hk
    go_wp2_with (refine wpList_load_mid rfl 32 _ rfl w.heap.size 70 rfl (rootC o.s o.lg o.mp) _ (unhide R70) Tryd.underlying32 rfl (unhide HSO) ?_)
    refine Calls.mono (root_all o.z o.s o.lg o.mp _ (unhide HZ) (unhide H).s (unhide H).lg.1 (unhide H).mp.1 (unhide H).lg.2 (unhide H).mp.2 (unhide HTT)) ?_
    rintro e w1 ⟨rfl, k1⟩
    rw [← unhide HD2, ← unhide HE2]
    have HZ2 := hide (unhide HF w1 k1).1
    have HK2 := hide (unhide HF w1 k1).2
    clear k1
    go_wp2_with (refine wpList_store_row rfl 26 _ _ rfl (w.heap.size + 1) (brow D) rfl rfl _ (zb 32) (unhide HZ2) (by rw [brow_size, hcl]; exact Tryd.size_dig) (by rw [zb_size, brow_size, hcl]) (brow_one _) ?_)
    refine bodyPost_ret (v := .tuple #[.agg (brow D), .int .i64 E]) ?_ rfl ⟨rfl, (unhide HK2).setRow (by simp) _⟩
    exact results_cell_tmp rfl _ _ (w.heap.size + 1) _ (brow D) (0, 0) _ rfl (setRow_heap _ _ _ _ _ _ (unhide HZ2)) Tryd.underlying26 rfl (by rw [brow_size, hcl]; exact Tryd.size_dig) _ rfl
end Go.Proofs.YtgnbigijpneebaaDoor
