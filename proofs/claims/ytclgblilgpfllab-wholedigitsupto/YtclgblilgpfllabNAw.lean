import Derived.Test.YtclgblilgpfllabNCmp
namespace Go.Proofs.Ytclgblilgpfllab
open Go.RowKit Go.BigFrame
set_option linter.unusedVariables false
set_option linter.unusedSimpArgs false

/-- A literal of an array, as a row that is known. -/
theorem wpList_build_as {P : Program} {ops : Array Oper} {rest : List Oper} {o : Oper} {a : Act} {w : World} {Q : Exit → Act → World → Prop} (hg : o.guard = none) (t : TypeId) (parts : Array (Nat × Operand)) (ho : o.op = .build t parts) (cs : Array Value)
    (hb : P.built t (parts.map fun (i, x) => (i, a.eval x)).toList = some cs) (h : wpList P ops Q rest (a.put o.dst (.agg cs)) w) : wpList P ops Q (o :: rest) a w :=
  wpList_build hg t parts ho (by rw [hb]; rfl) (by rw [hb]; exact h)
def dA : List Nat := 163 :: 79 :: List.replicate 30 0
def dB : List Nat := 163 :: 95 :: List.replicate 30 0
theorem dg_A : Dg dA := ⟨rfl, by decide⟩
theorem dg_B : Dg dB := ⟨rfl, by decide⟩

set_option maxRecDepth 100000 in
set_option maxHeartbeats 1000000 in
theorem nawake_any (w : World) : Calls Try.prog 5 #[] w fun e w' => e = .returned (.bool true) ∧ Kept [] w w' := by
  have HZZ := hide (by rw [brow_size]; exact Try.size_dig : (Try.prog.info? 29).map (·.size) = some (brow dA).size)
  have HD0 := hide (setRow_heap (w.alloc (.cells (zb 32) 29)) w.heap.size (zb 32) (brow dA) 29 (0, 0) (heap_alloc_new _ _))
  have HK0 := hide (((Kept.refl [] w).alloc (.cells (zb 32) 29)).setRow (g := w.heap.size) (Or.inr (Nat.le_refl _)) (brow dA))
  go_enter Try.func5, Try.ntmps5
  go_wp2_with (first
    | (refine wpList_build_as rfl 29 #[(0, .const (.int .u8 163)), (1, .const (.int .u8 79))] rfl (brow dA) (by kernel_rfl) ?_)
    | (rw [zb32]; refine wpList_store_row rfl 29 _ _ rfl w.heap.size (brow dA) rfl rfl _ (zb 32) (heap_alloc_new _ _) (unhide HZZ) (by rw [zb_size, brow_size]; rfl) (brow_one _) ?_)
    | (refine wpList_load_row rfl 29 _ rfl w.heap.size rfl _ (brow dA) (0, 0) _ (unhide HD0) Try.underlying29 rfl (unhide HZZ) ?_))
  refine Calls.mono (at_any 2 dA 0 _ (by decide) (by decide) dg_A) ?_
  rintro e w1 ⟨rfl, k1⟩
  rw [show atC 2 dA 0 = 10 by decide, show atE 2 dA 0 = 0 by decide]
  have HD1 := hide (k1.heap (unhide HD0) (by simp))
  have HK1 := hide ((unhide HK0).trans k1 (by simp))
  clear k1 HD0 HK0
  go_wp2_with (refine wpList_load_row rfl 29 _ rfl w.heap.size rfl _ (brow dA) (0, 0) _ (unhide HD1) Try.underlying29 rfl (unhide HZZ) ?_)
  refine Calls.mono (at_any 2 dA 3 _ (by decide) (by decide) dg_A) ?_
  rintro e w2 ⟨rfl, k2⟩
  rw [show atC 2 dA 3 = 15 by decide, show atE 2 dA 3 = 0 by decide]
  have HD2 := hide (k2.heap (unhide HD1) (by simp))
  have HK2 := hide ((unhide HK1).trans k2 (by simp))
  clear k2 HD1 HK1
  go_wp2_with (first
    | (refine wpList_build_as rfl 29 #[(0, .const (.int .u8 163)), (1, .const (.int .u8 95))] rfl (brow dB) (by kernel_rfl) ?_)
    | (refine wpList_load_row rfl 29 _ rfl w.heap.size rfl _ (brow dA) (0, 0) _ (unhide HD2) Try.underlying29 rfl (unhide HZZ) ?_))
  refine Calls.mono (common_any 2 dA dB _ (by decide) dg_A dg_B) ?_
  rintro e w3 ⟨rfl, k3⟩
  rw [show comC 2 dA dB = 2 by decide, show formedE 2 [dA, dB] = 0 by decide]
  have HD3 := hide (k3.heap (unhide HD2) (by simp))
  have HK3 := hide ((unhide HK2).trans k3 (by simp))
  clear k3 HD2 HK2
  go_wp2_with (first
    | (refine wpList_build_as rfl 29 #[(0, .const (.int .u8 163)), (1, .const (.int .u8 95))] rfl (brow dB) (by kernel_rfl) ?_)
    | (refine wpList_load_row rfl 29 _ rfl w.heap.size rfl _ (brow dA) (0, 0) _ (unhide HD3) Try.underlying29 rfl (unhide HZZ) ?_))
  refine Calls.mono (order_any 2 dA dB _ (by decide) dg_A dg_B) ?_
  rintro e w4 ⟨rfl, k4⟩
  rw [show ordC 2 dA dB = -1 by decide, show formedE 2 [dA, dB] = 0 by decide]
  have HK4 := hide ((unhide HK3).trans k4 (by simp))
  clear k4 HD3 HK3
  go_wp2_with fail
  refine Calls.mono (has_any 32773 2 _ (by decide) (by decide)) ?_
  rintro e w5 ⟨rfl, k5⟩
  rw [show hasB 32773 2 = true by decide]
  have HK5 := hide ((unhide HK4).trans k5 (by simp))
  clear k5 HK4
  go_wp2_with fail
  refine Calls.mono (rank_any 32773 3 _ (by decide) (by decide)) ?_
  rintro e w6 ⟨rfl, k6⟩
  rw [show rankB 32773 3 = 2 by decide]
  have HK6 := hide ((unhide HK5).trans k6 (by simp))
  clear k6 HK5
  go_wp2_with fail
  refine Calls.mono (count_any 32773 _ (by decide)) ?_
  rintro e w7 ⟨rfl, k7⟩
  rw [show cnt 32773 16 = 3 by decide]
  have HK7 := hide ((unhide HK6).trans k7 (by simp))
  clear k7 HK6
  go_wp2_with fail
  refine Calls.mono (with_any 32773 1 _ (by decide) (by decide)) ?_
  rintro e w8 ⟨rfl, k8⟩
  rw [show withB 32773 1 = 32775 by decide]
  have HK8 := hide ((unhide HK7).trans k8 (by simp))
  clear k8 HK7
  go_wp2_with fail
  refine Calls.mono (without_any 32773 15 _ (by decide) (by decide)) ?_
  rintro e w9 ⟨rfl, k9⟩
  rw [show outB 32773 15 = 5 by decide]
  have HK9 := hide ((unhide HK8).trans k9 (by simp))
  clear k9 HK8
  go_wp2
  go_ret
  exact ⟨rfl, unhide HK9⟩
end Go.Proofs.Ytclgblilgpfllab
