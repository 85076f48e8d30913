import Derived.Test.YtocpfbcbfgbdoaaESameB
namespace Go.Proofs.Ytocpfbcbfgbdoaa
open Go.RowKit Go.BigFrame
set_option linter.unusedVariables false
set_option linter.unusedSimpArgs false

set_option maxRecDepth 100000 in
set_option maxHeartbeats 1000000 in
theorem one_any (e : En) (kv vv : Value) (w : World) (h : OkE w e kv vv) :
    Calls Try.prog 10 #[.agg (enC e kv vv)] w fun r w' => r = .returned (.bool true) ∧ Kept [] w w' := by
  have H := hide h
  have HK0 := hide ((Kept.refl [] w).alloc (.cells (enC e kv vv) 26))
  have HG0 := hide (heap_alloc_new w (.cells (enC e kv vv) 26))
  have HSZ := hide (by unfold enC; kernel_rfl : (Try.prog.info? 26).map (·.size) = some (enC e kv vv).size)
  obtain ⟨A, hA⟩ : ∃ A, enC e kv vv = A := ⟨_, rfl⟩
  rw [hA] at HK0 HG0 HSZ ⊢
  have HA := hide hA
  clear hA h
  go_enter Try.func10, Try.ntmps10
  go_wp2_with (refine wpList_load_row rfl 26 _ rfl w.heap.size rfl _ A (0, 0) _ (unhide HG0) Try.underlying26 rfl (unhide HSZ) ?_)
  have hc := twinEntry_any e kv vv (w.alloc (.cells A 26)) ((unhide H).old (unhide HK0))
  rw [unhide HA] at hc
  refine Calls.mono hc ?_
  clear hc
  rintro r w1 ⟨kv1, vv1, rfl, ok1, k1, _⟩
  have HG1 := hide (k1.heap (unhide HG0) (by simp))
  have HK1 := hide ((unhide HK0).trans k1 (by simp))
  have HO1 := hide ok1
  clear k1 ok1
  go_wp2_with fail
  refine Calls.mono (check_any e kv1 vv1 w1 (unhide HO1)) ?_
  rintro r w2 ⟨rfl, k2⟩
  have HG2 := hide (k2.heap (unhide HG1) (by simp))
  have HK2 := hide ((unhide HK1).trans k2 (by simp))
  clear k2
  go_wp2_with (refine wpList_load_row rfl 26 _ rfl w.heap.size rfl _ A (0, 0) _ (unhide HG2) Try.underlying26 rfl (unhide HSZ) ?_)
  have hc := twinEntry_any e kv vv w2 ((unhide H).old (unhide HK2))
  rw [unhide HA] at hc
  refine Calls.mono hc ?_
  clear hc
  rintro r w3 ⟨kv3, vv3, rfl, ok3, k3, _⟩
  have HG3 := hide (k3.heap (unhide HG2) (by simp))
  have HK3 := hide ((unhide HK2).trans k3 (by simp))
  have HO3 := hide ok3
  clear k3 ok3
  go_wp2_with fail
  refine Calls.mono (eencode_any e kv3 vv3 w3 (unhide HO3)) ?_
  rintro r w4 ⟨v4, rfl, n4, k4⟩
  have HG4 := hide (k4.heap (unhide HG3) (by simp))
  have HK4 := hide ((unhide HK3).trans k4 (by simp))
  have HR4 := hide n4.1
  obtain ⟨a4, m4, c4, hu4, _⟩ := id n4.1
  subst hu4
  clear k4 n4
  go_wp2_with (refine wpList_load_row rfl 26 _ rfl w.heap.size rfl _ A (0, 0) _ (unhide HG4) Try.underlying26 rfl (unhide HSZ) ?_)
  have hc := docEncode_any e kv vv w4 ((unhide H).old (unhide HK4))
  rw [unhide HA] at hc
  refine Calls.mono hc ?_
  clear hc
  rintro r w5 ⟨v5, rfl, r5, k5⟩
  have HK5 := hide ((unhide HK4).trans k5 (by simp))
  have HS5 := hide ((unhide HR4).old k5 (by simp))
  have HR5 := hide r5
  obtain ⟨a5, m5, c5, hu5, _⟩ := id r5
  subst hu5
  clear k5 r5
  generalize chkE e = E at HS5 HR5 ⊢
  generalize (if E = 0 then enB e else []) = B at HS5 HR5
  have hee : ((E : Int) == (E : Int)) = true := by simp
  go_wp2_with fail
  refine Calls.mono (same_any _ _ B B _ (unhide HS5) (unhide HR5)) ?_
  rintro r w6 ⟨rfl, n6, rfl⟩
  rw [decide_eq_true rfl]
  go_wp2
  go_ret
  exact ⟨rfl, (unhide HK5).drewN _⟩
end Go.Proofs.Ytocpfbcbfgbdoaa
