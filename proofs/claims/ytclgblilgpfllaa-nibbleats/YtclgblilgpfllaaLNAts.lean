import Derived.Test.YtclgblilgpfllaaNAw
import Derived.Test.YtclgblilgpfllaaNDoc
namespace Go.Proofs.Ytclgblilgpfllaa
open Go.RowKit Go.BigFrame
set_option linter.unusedVariables false
set_option linter.unusedSimpArgs false

set_option maxRecDepth 100000 in
set_option maxHeartbeats 2000000 in
theorem nibbleAts_walk (z : Int) (d : List Nat) (i : Int) (w : World) (hz : -9223372036854775808 ≤ z ∧ z ≤ 9223372036854775807) (hd : Dg d) (hi : -9223372036854775808 ≤ i ∧ i ≤ 9223372036854775807) :
    Calls Try.prog 3 #[.int .i64 z, .agg (brow d), .int .i64 i] w fun e w' => e = .returned (.bool true) ∧ Below w.heap.size w w' := by
  have HD := hide hd
  have hdl := hd.1
  have HGA := hide (heap_alloc_new w (.cells (brow d) 23))
  have HK0 := hide ((Kept.refl [] w).alloc (.cells (brow d) 23))
  have HZZ := hide (by rw [brow_size, hdl]; exact Try.size_dig : (Try.prog.info? 23).map (·.size) = some (brow d).size)
  go_enter Try.func3, Try.ntmps3
  go_wp2_with fail
  refine Calls.mono (nawake_any _) ?_
  rintro e w1 ⟨rfl, k1⟩
  have HK1 := hide ((unhide HK0).trans k1 (by simp))
  have HG1 := hide (k1.heap (unhide HGA) (by simp))
  clear k1 HGA HK0
  go_wp2_with (refine wpList_load_row rfl 23 _ rfl w.heap.size rfl _ (brow d) (0, 0) _ (unhide HG1) Try.underlying23 rfl (unhide HZZ) ?_)
  refine Calls.mono (at_any z d i _ hz hi hd) ?_
  rintro e w2 ⟨rfl, k2⟩
  have HK2 := hide ((unhide HK1).trans k2 (by simp))
  have HG2 := hide (k2.heap (unhide HG1) (by simp))
  clear k2 HG1 HK1
  go_wp2_with (refine wpList_load_row rfl 23 _ rfl w.heap.size rfl _ (brow d) (0, 0) _ (unhide HG2) Try.underlying23 rfl (unhide HZZ) ?_)
  refine Calls.mono (docAt_any z d i _ hz hi hd) ?_
  rintro e w3 ⟨rfl, k3⟩
  have HK3 := hide ((unhide HK2).trans k3 (by simp))
  clear k3 HG2 HK2
  have hc9 : (atC z d i : Int) ≤ 100 := by
    have h1 := dgt_lt hd.2 i.toNat
    unfold atC
    split <;> omega
  have he9 : (atE z d i : Int) ≤ 100 := by
    unfold atE
    split
    · decide
    · split <;> decide
  generalize atC z d i = c at *
  generalize atE z d i = f at *
  go_wp2
  go_ret
  exact ⟨by simp, (unhide HK3).below (Nat.le_refl _) (by simp)⟩
end Go.Proofs.Ytclgblilgpfllaa
