import Derived.Test.YtbljofojeagdkaaDoorDSums
namespace Go.Proofs.YtbljofojeagdkaaDoor
open Go.RowKit Go.BigFrame
set_option linter.unusedVariables false
set_option linter.unusedSimpArgs false

def sunD (e : Nat) (z : Int) (p : List Nat) : List Nat := if e = 0 then sumD z p else List.replicate 32 0
def sunE (e : Nat) (z : Int) : Nat := if e = 0 then sumE z else e
theorem sunD_len (e : Nat) (z : Int) (p : List Nat) : (sunD e z p).length = 32 := by
  unfold sunD; split
  · exact sumD_len _ _
  · simp

set_option maxRecDepth 100000 in
set_option maxHeartbeats 1000000 in
theorem sumUnless_any (f : Nat) (z : Int) (v : Value) (p : List Nat) (w : World) (hz : -9223372036854775808 ≤ z ∧ z ≤ 9223372036854775807) (h : Rd w v p) (hT : Tabs w) :
    Calls Tryd.prog 75 #[.int .i64 f, .int .i64 z, v] w fun e w' => e = .returned (.tuple #[.agg (brow (sunD f z p)), .int .i64 (sunE f z)]) ∧ Kept [] w w' := by
  have H := hide h
  obtain ⟨a0, m0, c0, hu0, hm0, _⟩ := id h
  subst hu0
  subst hm0
  have HT := hide hT
  clear h hT
  have hcl := sunD_len f z p
  obtain ⟨D, hD⟩ : ∃ D, sunD f z p = D := ⟨_, rfl⟩
  have HD := hide hD
  rw [hD] at hcl ⊢
  clear hD
  obtain ⟨E, hE⟩ : ∃ E, sunE f z = E := ⟨_, rfl⟩
  have HE := hide hE
  rw [hE]
  clear hE
  have HL := hide (unhide H).len
  go_enter Tryd.func75, Tryd.ntmps75
  by_cases hf : f = 0
  · have hb : ((f : Int) != 0) = false := by rw [hf]; rfl
    have HD2 := hide (by rw [← unhide HD]; unfold sunD; rw [if_pos hf] : D = sumD z p)
    have HE2 := hide (by rw [← unhide HE]; unfold sunE; rw [if_pos hf] : E = sumE z)
    have HF := hide hf
    clear hf
    go_wp2_with fail
    rw [zb32]
    refine Calls.mono (dsum_all z _ [p] _ hz (RdL.one (alloc_at _ _ _) ((unhide H).old (((Kept.refl [] w).alloc _).alloc _) (by simp))) (by have h9 := unhide HL; simpa using h9) ((unhide HT).k (((Kept.refl [] w).alloc _).alloc _))) ?_
    rintro e w2 ⟨rfl, k2⟩
    rw [show ([p] : List (List Nat)).flatten = p by simp, ← unhide HD2, ← unhide HE2]
    have HZ2 := hide (k2.heap (((Kept.refl [] (w.alloc (.cells (zb 32) 23))).alloc (.cells #[.slice a0 p.length c0] 80)).heap (heap_alloc_new w (.cells (zb 32) 23)) (by simp)) (by simp))
    have HK2 := hide ((((Kept.refl [] w).alloc _).alloc _).trans k2 (by simp))
    clear k2
    go_wp2_with (refine wpList_store_row rfl 23 _ _ rfl w.heap.size (brow D) rfl rfl _ (zb 32) (unhide HZ2) (by rw [brow_size, hcl]; exact Tryd.size_dig) (by rw [zb_size, brow_size, hcl]) (brow_one _) ?_)
    refine bodyPost_ret (v := .tuple #[.agg (brow D), .int .i64 E]) ?_ rfl ⟨rfl, (unhide HK2).setRow (by simp) _⟩
    exact results_cell_tmp rfl _ _ w.heap.size _ (brow D) (0, 0) _ rfl (setRow_heap _ _ _ _ _ _ (unhide HZ2)) Tryd.underlying23 rfl (by rw [brow_size, hcl]; exact Tryd.size_dig) _ rfl
  · have hb : ((f : Int) != 0) = true := by rw [bne_iff_ne]; omega
    have HD2 := hide (by rw [← unhide HD]; unfold sunD; rw [if_neg hf] : D = List.replicate 32 0)
    have HE2 := hide (by rw [← unhide HE]; unfold sunE; rw [if_neg hf] : E = f)
    have HF := hide hf
    clear hf
    go_wp2_with (rw [zb32]; refine wpList_store_row rfl 23 _ _ rfl w.heap.size (zb 32) rfl rfl _ (zb 32) (heap_alloc_new _ _) (by rw [zb_size]; exact Tryd.size_dig) rfl (brow_one _) ?_)
    rw [unhide HD2, unhide HE2]
    refine bodyPost_ret (v := .tuple #[.agg (zb 32), .int .i64 f]) ?_ rfl ⟨rfl, ((Kept.refl [] w).alloc _).setRow (by simp) _⟩
    exact results_cell_tmp rfl _ _ w.heap.size _ (zb 32) (0, 0) _ rfl (setRow_heap _ _ _ _ _ _ (heap_alloc_new _ _)) Tryd.underlying23 rfl (by rw [zb_size]; exact Tryd.size_dig) _ rfl
end Go.Proofs.YtbljofojeagdkaaDoor
