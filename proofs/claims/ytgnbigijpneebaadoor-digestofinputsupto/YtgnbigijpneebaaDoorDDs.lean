import Derived.Test.YtgnbigijpneebaaDoorDSm
import Derived.Test.YtgnbigijpneebaaDoorLInputs
namespace Go.Proofs.YtgnbigijpneebaaDoor
open Go.RowKit Go.BigFrame
set_option linter.unusedVariables false
set_option linter.unusedSimpArgs false

theorem inE_wide (o : OpD) (h : widthB o.z = false) : opF o = 1 := by
  unfold opF sunE
  by_cases h0 : inE o = 0
  · rw [if_pos h0]; simp [sumE, h]
  · rw [if_neg h0]
    unfold inE at h0 ⊢
    by_cases h2 : o.kd = 2
    · rw [if_pos h2]; simp [formedE, h]
    · rw [if_neg h2] at h0 ⊢
      by_cases h5 : o.kd = 5
      · rw [if_pos h5]; simp [branchE, formedE, h]
      · rw [if_neg h5] at h0 ⊢
        by_cases h1 : o.kd = 1 ∨ o.kd = 3 ∨ o.kd = 4
        · rw [if_pos h1] at h0; exact absurd rfl h0
        · rw [if_neg h1]; simp [formedE, h]
theorem opS_bad (o : OpD) (h : opF o ≠ 0) : opS o = List.replicate 32 0 := by
  unfold opF sunE at h
  unfold opS sunD
  by_cases h0 : inE o = 0
  · rw [if_pos h0] at h ⊢
    cases hw : widthB o.z with
    | false => simp [sumD, hw]
    | true => simp [sumE, hw] at h
  · rw [if_neg h0]
theorem opF_wide (o : OpD) (h : widthB o.z = true) : opF o = inE o := by
  unfold opF sunE
  by_cases h0 : inE o = 0
  · rw [if_pos h0, h0]; simp [sumE, h]
  · rw [if_neg h0]

set_option maxRecDepth 100000 in
set_option maxHeartbeats 2000000 in
theorem docSumOp_any (o : OpD) (pv kv dv : Value) (w : World) (h : OkD w o pv kv dv) (hk : 1 ≤ o.kd ∧ o.kd ≤ 6) :
    Calls Tryd.prog 16 #[.agg (opC o pv kv dv).toArray] w fun e w' => e = .returned (.tuple #[.agg (brow (opS o)), .int .i64 (opF o)]) ∧ Kept [] w w' := by
  have H := hide h
  have hcl := opS_len o
  have HSA := hide (by rw [List.size_toArray, opC_len h.l.1 h.r.1 h.lg.1 h.mp.1]; exact Tryd.size_op : (Tryd.prog.info? 34).map (·.size) = some (opC o pv kv dv).toArray.size)
  obtain ⟨C, hC⟩ : ∃ C, (opC o pv kv dv).toArray = C := ⟨_, rfl⟩
  have HG := hide (heap_alloc_new w (.cells C 34))
  rw [← hC] at HG
  obtain ⟨⟨_, c1, _⟩, _⟩ := op_cells (unhide HG) h.l.1 h.r.1
  have HC := hide hC
  rw [hC] at HG HSA c1 ⊢
  clear hC
  have HK0 := hide (((Kept.refl [] w).alloc (.cells C 34)).alloc (.cells (zb 32) 26))
  have HGC := hide (((Kept.refl [] (w.alloc (.cells C 34))).alloc (.cells (zb 32) 26)).heap (unhide HG) (by simp))
  have HGZ := hide (alloc_at w (.cells C 34) (.cells (zb 32) 26))
  have HC1 := hide (((Kept.refl [] (w.alloc (.cells C 34))).alloc (.cells (zb 32) 26)).cell c1 (by simp))
  have q1 : ∀ ob, ((w.alloc (.cells C 34)).alloc ob).cell? ⟨w.heap.size, 1, none⟩ = some (.int .i64 o.z) := fun ob => ((Kept.refl [] _).alloc ob).cell c1 (by simp)
  have HH := hide (h.old (unhide HK0))
  clear h c1
  have HZ := hide (unhide H).z
  obtain ⟨D, hD⟩ : ∃ D, opS o = D := ⟨_, rfl⟩
  have HD := hide hD
  rw [hD] at hcl ⊢
  clear hD
  obtain ⟨E, hE⟩ : ∃ E, opF o = E := ⟨_, rfl⟩
  have HE := hide hE
  rw [hE]
  clear hE
  go_enter Tryd.func16, Tryd.ntmps16
  clear HG
  go_wp2_with (refine wpList_load_row rfl 34 _ rfl w.heap.size rfl _ C (0, 0) _ (unhide HGC) Tryd.underlying34 rfl (unhide HSA) ?_)
  have hdc := doc_any o pv kv dv ((w.alloc (.cells C 34)).alloc (.cells (zb 32) 26)) (unhide HH) hk
  rw [unhide HC] at hdc
  refine Calls.mono hdc ?_
  rintro e w1 ⟨v1, rfl, r1, k1⟩
  clear hdc
  have d1 := k1.cell (unhide HC1) (by simp)
  have HZ1 := hide (k1.heap (unhide HGZ) (by simp))
  have HK1 := hide ((unhide HK0).trans k1 (by simp))
  have HR1 := hide r1
  obtain ⟨a1, m1, cc1, hu1, hm1, _⟩ := id r1
  subst hu1
  clear r1 k1 hm1 HGC HGZ HC1
  obtain ⟨I, hI⟩ : ∃ I, inE o = I := ⟨_, rfl⟩
  have HI := hide hI
  rw [hI] at HR1 ⊢
  clear hI
  go_wp2_with fail
  refine Calls.mono (rwidth_any o.z _ (unhide HZ)) ?_
  rintro e w2 ⟨rfl, rfl⟩
  cases hw : widthB o.z with
  | false =>
    have HE2 := hide (by rw [← unhide HE]; exact inE_wide o hw : E = 1)
    have HD2 := hide (by rw [← unhide HD]; exact opS_bad o (by rw [inE_wide o hw]; decide) : D = List.replicate 32 0)
    go_wp2_with (refine wpList_store_row rfl 26 _ _ rfl (w.heap.size + 1) (zb 32) rfl rfl _ (zb 32) (unhide HZ1) (by rw [zb_size]; exact Tryd.size_dig) rfl (brow_one _) ?_)
    rw [unhide HD2, unhide HE2]
    refine bodyPost_ret (v := .tuple #[.agg (zb 32), .int .i64 1]) ?_ rfl ⟨rfl, (unhide HK1).setRow (by simp) _⟩
    exact results_cell_tmp rfl _ _ (w.heap.size + 1) _ (zb 32) (0, 0) _ rfl (setRow_heap _ _ _ _ _ _ (unhide HZ1)) Tryd.underlying26 rfl (by rw [zb_size]; exact Tryd.size_dig) _ rfl
  | true =>
    have HEI := hide (by rw [← unhide HE, ← unhide HI]; exact opF_wide o hw : E = I)
    have hwd := width_le hw
    by_cases hi : I = 0
    · have hb : ((I : Int) != 0) = false := by rw [hi]; rfl
      have HD2 := hide (by rw [← unhide HD]; unfold opS sunD; rw [unhide HI, if_pos hi]; simp [sumD, hw] : D = cutL o.z.toNat (hash (inB o)))
      have HI0 := hide hi
      rw [if_pos hi] at HR1
      clear hi
      have hz9 : ((o.z.toNat : Nat) : Int) = o.z := Int.toNat_of_nonneg (by omega)
      have HZ9 := hide hz9
      clear hz9
      go_wp2_with fail
      have hc := refCut_any o.z.toNat _ _ _ (unhide HR1) (by omega)
      rw [unhide HZ9] at hc
      refine Calls.mono hc ?_
      rintro e w3 ⟨rfl, k3⟩
      rw [← unhide HD2]
      have HZ3 := hide (k3.heap (unhide HZ1) (by simp))
      have HK3 := hide ((unhide HK1).trans k3 (by simp))
      clear k3 hc
      go_wp2_with (refine wpList_store_row rfl 26 _ _ rfl (w.heap.size + 1) (brow D) rfl rfl _ (zb 32) (unhide HZ3) (by rw [brow_size, hcl]; exact Tryd.size_dig) (by rw [zb_size, brow_size, hcl]) (brow_one _) ?_)
      rw [unhide HEI, unhide HI0]
      refine bodyPost_ret (v := .tuple #[.agg (brow D), .int .i64 0]) ?_ rfl ⟨rfl, (unhide HK3).setRow (by simp) _⟩
      exact results_cell_tmp rfl _ _ (w.heap.size + 1) _ (brow D) (0, 0) _ rfl (setRow_heap _ _ _ _ _ _ (unhide HZ3)) Tryd.underlying26 rfl (by rw [brow_size, hcl]; exact Tryd.size_dig) _ rfl
    · have hb : ((I : Int) != 0) = true := by rw [bne_iff_ne]; omega
      have HD2 := hide (by rw [← unhide HD]; exact opS_bad o (by rw [unhide HE, unhide HEI]; exact hi) : D = List.replicate 32 0)
      have HI0 := hide hi
      clear hi
      go_wp2_with (refine wpList_store_row rfl 26 _ _ rfl (w.heap.size + 1) (zb 32) rfl rfl _ (zb 32) (unhide HZ1) (by rw [zb_size]; exact Tryd.size_dig) rfl (brow_one _) ?_)
      rw [unhide HD2, unhide HEI]
      refine bodyPost_ret (v := .tuple #[.agg (zb 32), .int .i64 I]) ?_ rfl ⟨rfl, (unhide HK1).setRow (by simp) _⟩
      exact results_cell_tmp rfl _ _ (w.heap.size + 1) _ (zb 32) (0, 0) _ rfl (setRow_heap _ _ _ _ _ _ (unhide HZ1)) Tryd.underlying26 rfl (by rw [zb_size]; exact Tryd.size_dig) _ rfl
end Go.Proofs.YtgnbigijpneebaaDoor
