import Derived.Test.YtocpfbcbfgbdoaaEBatD
namespace Go.Proofs.Ytocpfbcbfgbdoaa
open Go.RowKit Go.BigFrame
set_option linter.unusedVariables false
set_option linter.unusedSimpArgs false

set_option maxRecDepth 100000 in
set_option maxHeartbeats 1000000 in
theorem entryBatches_walk (f : Nat) (v : Value) (es : List En) (w : World) (hf : f < 18446744073709551616) (h : RdN w v es) (hl : es.length ≤ 1048576) :
    Calls Try.prog 5 #[.agg #[.int .u64 f, v]] w fun r w' => r = .returned (.bool true) ∧ Below w.heap.size w w' := by
  have H := hide h
  obtain ⟨a1, m1, c1, _, _, rfl, _⟩ := h
  have HK0 := hide ((Kept.refl [] w).alloc (.cells #[.int .u64 (f : Int), .slice a1 m1 c1] 34))
  have HG0 := hide (heap_alloc_new w (.cells #[.int .u64 (f : Int), .slice a1 m1 c1] 34))
  go_enter Try.func5, Try.ntmps5
  go_wp2_with fail
  refine Calls.mono (eawake_any _) ?_
  rintro r w1 ⟨rfl, k1⟩
  have HG1 := hide (k1.heap (unhide HG0) (by simp))
  have HK1 := hide ((unhide HK0).trans k1 (by simp))
  clear k1
  go_wp2_with (refine wpList_load_row rfl 34 _ rfl w.heap.size rfl _ _ (0, 0) _ (unhide HG1) Try.underlying34 rfl Try.size_batch ?_)
  refine Calls.mono (twinBatch_any f _ es w1 ((unhide H).old (unhide HK1)) hl) ?_
  rintro r w2 ⟨v2, rfl, n2, k2⟩
  have HG2 := hide (k2.heap (unhide HG1) (by simp))
  have HK2 := hide ((unhide HK1).trans k2 (by simp))
  have HN2 := hide n2.rdN
  clear k2 n2
  go_wp2_with fail
  refine Calls.mono (encodeBatch_any f v2 es w2 hf (unhide HN2)) ?_
  rintro r w3 ⟨v3, rfl, n3, k3⟩
  have HG3 := hide (k3.heap (unhide HG2) (by simp))
  have HK3 := hide ((unhide HK2).trans k3 (by simp))
  have HR3 := hide n3.1
  obtain ⟨a3, m3, c3, hu3, _⟩ := id n3.1
  subst hu3
  clear k3 n3
  go_wp2_with (refine wpList_load_row rfl 34 _ rfl w.heap.size rfl _ _ (0, 0) _ (unhide HG3) Try.underlying34 rfl Try.size_batch ?_)
  refine Calls.mono (docEncodeBatch_any f _ es w3 hf ((unhide H).old (unhide HK3)) hl) ?_
  rintro r w4 ⟨v4, rfl, r4, k4⟩
  have HK4 := hide ((unhide HK3).trans k4 (by simp))
  have HS4 := hide ((unhide HR3).old k4 (by simp))
  have HR4 := hide r4
  obtain ⟨a4, m4, c4, hu4, _⟩ := id r4
  subst hu4
  clear k4 r4
  generalize chkB f es = E at HS4 HR4 ⊢
  generalize (if E = 0 then batB f es else []) = B at HS4 HR4
  have hee : ((E : Int) == (E : Int)) = true := by simp
  go_wp2_with fail
  refine Calls.mono (same_any _ _ B B _ (unhide HS4) (unhide HR4)) ?_
  rintro r w6 ⟨rfl, n6, rfl⟩
  rw [decide_eq_true rfl]
  go_wp2
  go_ret
  exact ⟨rfl, ((unhide HK4).drewN _).below (Nat.le_refl _) (by simp)⟩
end Go.Proofs.Ytocpfbcbfgbdoaa
