import Derived.Test.YtgnbigijpneebaaDoorDUnl
namespace Go.Proofs.YtgnbigijpneebaaDoor
open Go.RowKit Go.BigFrame
set_option linter.unusedVariables false
set_option linter.unusedSimpArgs false

set_option maxRecDepth 100000 in
set_option maxHeartbeats 1000000 in
theorem branch_all (z : Int) (x : Nat) (v : Value) (ds : List (List Nat)) (w : World) (hz : -9223372036854775808 ≤ z ∧ z ≤ 9223372036854775807) (hx : x < 65536) (h : RdD w v ds) (hT : Tabs w) :
    Calls Tryd.prog 48 #[.int .i64 z, .int .u16 x, v] w fun e w' => e = .returned (.tuple #[.agg (brow (sunD (branchE z x ds) z (branchB z x ds))), .int .i64 (sunE (branchE z x ds) z)]) ∧ Kept [] w w' := by
  have HT := hide hT
  clear hT
  have hcl := sunD_len (branchE z x ds) z (branchB z x ds)
  have HX := hide (by unfold sunD; by_cases h9 : branchE z x ds = 0; rw [if_pos h9, if_pos h9, if_pos h9]; rw [if_neg h9, if_neg h9] : sunD (branchE z x ds) z (if branchE z x ds = 0 then branchB z x ds else []) = sunD (branchE z x ds) z (branchB z x ds))
  obtain ⟨f, hf⟩ : ∃ f, branchE z x ds = f := ⟨_, rfl⟩
  have HF := hide hf
  rw [hf] at hcl HX ⊢
  clear hf
  obtain ⟨D, hD⟩ : ∃ D, sunD f z (branchB z x ds) = D := ⟨_, rfl⟩
  have HD := hide hD
  rw [hD] at hcl HX ⊢
  clear hD
  obtain ⟨E, hE⟩ : ∃ E, sunE f z = E := ⟨_, rfl⟩
  have HE := hide hE
  rw [hE]
  clear hE
  go_enter Tryd.func48, Tryd.ntmps48
  go_wp2_with fail
  rw [zb32]
  refine Calls.mono (branchInput_any z x _ ds _ hz hx (h.old ((Kept.refl [] w).alloc _))) ?_
  rintro e w1 ⟨v1, rfl, n1, k1⟩
  rw [unhide HF] at n1 ⊢
  have HR1 := hide n1.1
  obtain ⟨a1, m1, c1, hu1, hm1, _⟩ := id n1.1
  subst hu1
  have HZ1 := hide (k1.heap (heap_alloc_new w (.cells (zb 32) 26)) (by simp))
  have HK1 := hide (((Kept.refl [] w).alloc (.cells (zb 32) 26)).trans k1 (by simp))
  clear n1 k1 hm1
  go_wp2_with fail
  refine Calls.mono (sumUnless_any f z _ _ w1 hz (unhide HR1) ((unhide HT).k (unhide HK1))) ?_
  rintro e w2 ⟨rfl, k2⟩
  rw [unhide HX, unhide HE]
  have HZ2 := hide (k2.heap (unhide HZ1) (by simp))
  have HK2 := hide ((unhide HK1).trans k2 (by simp))
  clear k2
  go_wp2_with (refine wpList_store_row rfl 26 _ _ rfl w.heap.size (brow D) rfl rfl _ (zb 32) (unhide HZ2) (by rw [brow_size, hcl]; exact Tryd.size_dig) (by rw [zb_size, brow_size, hcl]) (brow_one _) ?_)
  refine bodyPost_ret (v := .tuple #[.agg (brow D), .int .i64 E]) ?_ rfl ⟨rfl, (unhide HK2).setRow (by simp) _⟩
  exact results_cell_tmp rfl _ _ w.heap.size _ (brow D) (0, 0) _ rfl (setRow_heap _ _ _ _ _ _ (unhide HZ2)) Tryd.underlying26 rfl (by rw [brow_size, hcl]; exact Tryd.size_dig) _ rfl

end Go.Proofs.YtgnbigijpneebaaDoor
