import Derived.Test.YtclgblilgpfllaaNDord
import Derived.Test.YtclgblilgpfllaaNOrd2
namespace Go.Proofs.Ytclgblilgpfllaa
open Go.RowKit Go.BigFrame
set_option linter.unusedVariables false
set_option linter.unusedSimpArgs false

set_option maxRecDepth 100000 in
set_option maxHeartbeats 2000000 in
theorem nibbleCommons_walk (z : Int) (a b : List Nat) (w : World) (hz : -9223372036854775808 ≤ z ∧ z ≤ 9223372036854775807) (ha : Dg a) (hb : Dg b) :
    Calls Try.prog 4 #[.int .i64 z, .agg (brow a), .agg (brow b)] w fun e w' => e = .returned (.bool true) ∧ Below w.heap.size w w' := by
  have hal := ha.1
  have hbl := hb.1
  have HGA := hide (((Kept.refl [] (w.alloc (.cells (brow a) 23))).alloc (.cells (brow b) 23)).heap (heap_alloc_new w (.cells (brow a) 23)) (by simp))
  have HGB := hide (alloc_at w (.cells (brow a) 23) (.cells (brow b) 23))
  have HK0 := hide (((Kept.refl [] w).alloc (.cells (brow a) 23)).alloc (.cells (brow b) 23))
  have HZA := hide (by rw [brow_size, hal]; exact Try.size_dig : (Try.prog.info? 23).map (·.size) = some (brow a).size)
  have HZB := hide (by rw [brow_size, hbl]; exact Try.size_dig : (Try.prog.info? 23).map (·.size) = some (brow b).size)
  have hf9 : (formedE z [a, b] : Int) ≤ 100 := by
    unfold formedE
    split
    · decide
    · split <;> decide
  have hc9 : (comC z a b : Int) ≤ 100 := by
    unfold comC
    split
    · rename_i h
      obtain ⟨k, rfl, _, hk⟩ := wid_of h
      have := (comL_spec a b (2 * k) 0).2.1
      rw [Int.toNat_natCast]
      omega
    · decide
  have ho9 : -1 ≤ ordC z a b ∧ ordC z a b ≤ 1 := by
    unfold ordC
    split
    · rcases ordL_range a b with h | h | h <;> omega
    · decide
  go_enter Try.func4, Try.ntmps4
  go_wp2_with fail
  refine Calls.mono (nawake_any _) ?_
  rintro e w1 ⟨rfl, k1⟩
  have HK1 := hide ((unhide HK0).trans k1 (by simp))
  have HA1 := hide (k1.heap (unhide HGA) (by simp))
  have HB1 := hide (k1.heap (unhide HGB) (by simp))
  clear k1 HGA HGB HK0
  go_wp2_with (first
    | (refine wpList_load_row rfl 23 _ rfl w.heap.size rfl _ (brow a) (0, 0) _ (unhide HA1) Try.underlying23 rfl (unhide HZA) ?_)
    | (refine wpList_load_row rfl 23 _ rfl (w.heap.size + 1) rfl _ (brow b) (0, 0) _ (unhide HB1) Try.underlying23 rfl (unhide HZB) ?_))
  refine Calls.mono (common_any z a b _ hz ha hb) ?_
  rintro e w2 ⟨rfl, k2⟩
  have HK2 := hide ((unhide HK1).trans k2 (by simp))
  have HA2 := hide (k2.heap (unhide HA1) (by simp))
  have HB2 := hide (k2.heap (unhide HB1) (by simp))
  clear k2 HA1 HB1 HK1
  go_wp2_with (first
    | (refine wpList_load_row rfl 23 _ rfl w.heap.size rfl _ (brow a) (0, 0) _ (unhide HA2) Try.underlying23 rfl (unhide HZA) ?_)
    | (refine wpList_load_row rfl 23 _ rfl (w.heap.size + 1) rfl _ (brow b) (0, 0) _ (unhide HB2) Try.underlying23 rfl (unhide HZB) ?_))
  refine Calls.mono (docCommon_any z a b _ hz ha hb) ?_
  rintro e w3 ⟨rfl, k3⟩
  have HK3 := hide ((unhide HK2).trans k3 (by simp))
  have HA3 := hide (k3.heap (unhide HA2) (by simp))
  have HB3 := hide (k3.heap (unhide HB2) (by simp))
  clear k3 HA2 HB2 HK2
  go_wp2_with (first
    | (refine wpList_load_row rfl 23 _ rfl w.heap.size rfl _ (brow a) (0, 0) _ (unhide HA3) Try.underlying23 rfl (unhide HZA) ?_)
    | (refine wpList_load_row rfl 23 _ rfl (w.heap.size + 1) rfl _ (brow b) (0, 0) _ (unhide HB3) Try.underlying23 rfl (unhide HZB) ?_))
  refine Calls.mono (order_any z a b _ hz ha hb) ?_
  rintro e w4 ⟨rfl, k4⟩
  have HK4 := hide ((unhide HK3).trans k4 (by simp))
  have HA4 := hide (k4.heap (unhide HA3) (by simp))
  have HB4 := hide (k4.heap (unhide HB3) (by simp))
  clear k4 HA3 HB3 HK3
  go_wp2_with (first
    | (refine wpList_load_row rfl 23 _ rfl w.heap.size rfl _ (brow a) (0, 0) _ (unhide HA4) Try.underlying23 rfl (unhide HZA) ?_)
    | (refine wpList_load_row rfl 23 _ rfl (w.heap.size + 1) rfl _ (brow b) (0, 0) _ (unhide HB4) Try.underlying23 rfl (unhide HZB) ?_))
  refine Calls.mono (docOrder_any z a b _ hz ha hb) ?_
  rintro e w5 ⟨rfl, k5⟩
  have HK5 := hide ((unhide HK4).trans k5 (by simp))
  clear k5 HA4 HB4 HK4
  generalize formedE z [a, b] = f at *
  generalize comC z a b = c at *
  generalize ordC z a b = o at *
  go_wp2
  go_ret
  exact ⟨by simp, (unhide HK5).below (Nat.le_refl _) (by simp)⟩
end Go.Proofs.Ytclgblilgpfllaa
