import Derived.Test.YtnepbjnemgebiaaFDocN
import Derived.Deep.RegionHeld3
namespace Go.Proofs.Ytnepbjnemgebiaa
open Go.RowKit Go.BigFrame
set_option linter.unusedVariables false
set_option linter.unusedSimpArgs false

set_option maxRecDepth 100000 in
set_option maxHeartbeats 2000000 in
theorem frameNexts_walk (v : Value) (p : List Nat) (z : Int) (w : World) (h : Rd w v p) (hl : p.length ≤ 140737488355328) (hz : -9223372036854775808 ≤ z ∧ z ≤ 9223372036854775807) :
    Calls Try.prog 4 #[v, .int .i64 z] w fun e w' => e = .returned (.bool true) ∧ Below w.heap.size w w' := by
  have H := hide h
  clear h
  go_enter Try.func4, Try.ntmps4
  go_wp2_with fail
  refine Calls.mono (fawake_any _) ?_
  rintro e w1 ⟨rfl, k1⟩
  have HK1 := hide k1
  clear k1
  go_wp2_with fail
  refine Calls.mono (twin_any _ p w1 ((unhide H).old (unhide HK1) (by simp))) ?_
  rintro e w2 ⟨rfl, k2, g2⟩
  have HK2 := hide ((unhide HK1).trans k2 (by simp))
  have HR2 := hide (rd_fresh g2 (unhide H).byte (unhide H).len)
  clear k2 g2
  go_wp2_with fail
  refine Calls.mono (next_any _ p z w2 (unhide HR2) hz) ?_
  rintro e w3 ⟨v3, rfl, n3, k3⟩
  have HN3 := hide n3.1
  have HK3 := hide ((unhide HK2).trans k3 (by simp))
  obtain ⟨a3, m3, c3, rfl, hm3, _⟩ := id n3.1
  obtain ⟨NR, hNR⟩ : ∃ R, nextF p z = R := ⟨_, rfl⟩
  obtain ⟨pl, pay, nx, kd⟩ := NR
  have HNR := hide hNR
  rw [hNR] at HN3 ⊢
  simp only at HN3 ⊢
  clear k3 n3 hm3 hNR
  have HP3 := hide ((unhide H).old ((unhide HK3).alloc (.cells #[.int .u64 (pl : Int), .slice a3 m3 c3] 34)) (by simp))
  go_wp2_with fail
  refine Calls.mono (docNext_any v p z _ (unhide HP3) hz) ?_
  rintro e w4 ⟨v4, rfl, r4, k4⟩
  rw [unhide HNR] at r4 ⊢
  simp only at r4 ⊢
  have HR4 := hide r4
  have HK4 := hide (((unhide HK3).alloc _).trans k4 (by simp))
  have HC4 := hide (k4.heap (heap_alloc_new w3 (.cells #[.int .u64 (pl : Int), .slice a3 m3 c3] 34)) (by simp))
  have HN4 := hide ((unhide HN3).old (((Kept.refl [] w3).alloc _).trans k4 (by simp)) (by simp))
  obtain ⟨a4, m4, c4, rfl, hm4, _⟩ := id r4
  clear r4 k4 hm4
  have k5 : ∀ ob, Kept [] w4 (w4.alloc ob) := fun ob => (Kept.refl [] w4).alloc ob
  have d0 : ∀ ob, (w4.alloc ob).cell? ⟨w3.heap.size, 0, none⟩ = some (.int .u64 pl) := fun ob => (k5 ob).cell (by rw [cell_of_row _ _ _ _ _ _ (unhide HC4)]; rfl) (by simp)
  have d1 : ∀ ob, (w4.alloc ob).cell? ⟨w3.heap.size, 1, none⟩ = some (.slice a3 m3 c3) := fun ob => (k5 ob).cell (by rw [cell_of_row _ _ _ _ _ _ (unhide HC4)]; rfl) (by simp)
  clear k5
  go_wp2_with fail
  refine Calls.mono (fsame_any pl pl _ _ pay pay _ ((unhide HN4).old ((Kept.refl [] w4).alloc _) (by simp)) ((unhide HR4).old ((Kept.refl [] w4).alloc _) (by simp))) ?_
  rintro e w5 ⟨rfl, k5⟩
  have HK5 := hide (((unhide HK4).alloc _).trans k5 (by simp))
  clear k5
  rw [show (decide (pl = pl) && decide (pay = pay)) = true by simp]
  go_wp2
  go_ret
  exact ⟨rfl, (unhide HK5).below (Nat.le_refl _) (by simp)⟩
end Go.Proofs.Ytnepbjnemgebiaa
