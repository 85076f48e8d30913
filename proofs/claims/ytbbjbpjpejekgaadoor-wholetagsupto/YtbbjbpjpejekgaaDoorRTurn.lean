import Derived.Test.YtbbjbpjpejekgaaDoorSCom
import Derived.Test.YtbbjbpjpejekgaaDoorCloned
namespace Go.Proofs.YtbbjbpjpejekgaaDoor
open Go.RowKit
set_option linter.unusedVariables false
set_option linter.unusedSimpArgs false

set_option maxRecDepth 100000 in
set_option maxHeartbeats 1000000 in
theorem turn_any (x n : Nat) (w : World) (hx : x < 4294967296) (h1 : 1 ≤ n) (h2 : n ≤ 31) :
    Calls Tryd.prog 93 #[.int .u32 x, .int .i64 n] w fun e w' => e = .returned (.int .u32 (rotr n x)) ∧ ∃ n, w' = w.drewN n := by
  obtain ⟨m, hm⟩ : ∃ m, m + n = 32 := ⟨32 - n, by omega⟩
  have hmn : (32 : Int) - (n : Int) = (m : Int) := by omega
  have hadd : ((x : Int) / 2 ^ n + (x : Int) * 2 ^ m % 4294967296) % 4294967296 = ((rotr n x : Nat) : Int) := by
    have e1 : (x : Int) * 2 ^ m % 4294967296 = ((x * 2 ^ m % 4294967296 : Nat) : Int) := by simp
    have e2 : (x : Int) / 2 ^ n = ((x / 2 ^ n : Nat) : Int) := by simp
    have e3 := rotr_shift n x (by omega) hx
    rw [show 32 - n = m by omega] at e3
    have e4 := rotr_lt (n := n) (by omega) hx
    have e5 : rotr n x = x / 2 ^ n + x * 2 ^ m % 4294967296 := by rw [e3]; unfold rotr; rw [show 32 - n = m by omega]
    rw [e1, e2]; omega
  have hn0 : (0 : Int) ≤ n := by omega
  have hm0 : (0 : Int) ≤ m := by omega
  have hm32 : (m : Int) ≤ 32 := by omega
  have hn32 : (n : Int) ≤ 32 := by omega
  have hnn : ¬ (n : Int) < 0 := by omega
  have hmm : ¬ (m : Int) < 0 := by omega
  go_enter Tryd.func93, Tryd.ntmps93
  go_wp2_with fail
  go_quiet (fail)
  go_wp2
  go_ret
  exact ⟨by rw [← hadd]; rfl, _, rfl⟩

set_option maxRecDepth 100000 in
set_option maxHeartbeats 1000000 in
theorem big_any (v : Value) (p : List Nat) (k : Nat) (z : Int) (w : World) (h : Rd w v p) (hz : z = k) (hk : k + 4 ≤ p.length) :
    Calls Tryd.prog 95 #[v, .int .i64 z] w fun e w' => e = .returned (.int .u32 (p.getD k 0 * 16777216 + p.getD (k + 1) 0 * 65536 + p.getD (k + 2) 0 * 256 + p.getD (k + 3) 0 : Nat)) ∧ ∃ n, w' = w.drewN n := by
  subst hz
  have HB := hide h.byte
  obtain ⟨ao, len, cap, rfl, rfl, h2, ⟨h3, h3'⟩, h4, h5, h6⟩ := h
  obtain ⟨b, o, rfl, hc⟩ := h6 (by omega)
  have c0 := hc k (by omega)
  have c1 := hc (k + 1) (by omega)
  have c2 := hc (k + 2) (by omega)
  have c3 := hc (k + 3) (by omega)
  have b0 := byteD (unhide HB) k
  have b1 := byteD (unhide HB) (k + 1)
  have b2 := byteD (unhide HB) (k + 2)
  have b3 := byteD (unhide HB) (k + 3)
  clear hc h4 h5 h6
  generalize p.getD k 0 = y0 at *
  generalize p.getD (k + 1) 0 = y1 at *
  generalize p.getD (k + 2) 0 = y2 at *
  generalize p.getD (k + 3) 0 = y3 at *
  have i0 : (k : Int) < p.length := by omega
  have i1 : (k : Int) + 1 < p.length := by omega
  have i2 : (k : Int) + 2 < p.length := by omega
  have i3 : (k : Int) + 3 < p.length := by omega
  go_enter Tryd.func95, Tryd.ntmps95
  go_wp2_with fail
  go_quiet (fail)
  go_wp2
  go_ret
  exact ⟨by simp, _, rfl⟩
theorem wpList_build_as' {P : Program} {ops : Array Oper} {rest : List Oper} {o : Oper} {a : Act} {w : World} {Q : Exit → Act → World → Prop} (hg : o.guard = none) (t : TypeId) (parts : Array (Nat × Operand)) (ho : o.op = .build t parts) (cs : Array Value)
    (hb : P.built t (parts.map fun (i, x) => (i, a.eval x)).toList = some cs) (h : wpList P ops Q rest (a.put o.dst (.agg cs)) w) : wpList P ops Q (o :: rest) a w :=
  wpList_build hg t parts ho (by rw [hb]; rfl) (by rw [hb]; exact h)

set_option maxRecDepth 100000 in
set_option maxHeartbeats 1000000 in
theorem words_any (w : World) : Calls Tryd.prog 92 #[] w fun e w' => e = .returned (.agg (row kt)) ∧ Kept [] w w' := by
  go_enter Tryd.func92, Tryd.ntmps92
  go_wp2_with (first
    | (refine wpList_build_as' rfl 124 _ rfl (row kt) (by kernel_rfl) ?_)
    | (rw [zw64]; refine wpList_store_row rfl 124 _ _ rfl w.heap.size (row kt) rfl rfl _ (zw 64) (heap_alloc_new _ _) (by rw [row_size]; exact Tryd.size_a64w) (by rw [zw_size, row_size]; rfl) (row_one _) ?_))
  refine bodyPost_ret (v := .agg (row kt)) ?_ rfl ⟨rfl, ((Kept.refl [] w).alloc _).setRow (by simp) _⟩
  exact results_cell_row rfl _ _ w.heap.size _ (row kt) (0, 0) _ rfl (setRow_heap _ _ _ _ _ _ (heap_alloc_new _ _)) Tryd.underlying124 rfl (by rw [row_size]; exact Tryd.size_a64w)

set_option maxRecDepth 100000 in
set_option maxHeartbeats 1000000 in
theorem first_any (w : World) : Calls Tryd.prog 86 #[] w fun e w' => e = .returned (.agg (row h0)) ∧ Kept [] w w' := by
  go_enter Tryd.func86, Tryd.ntmps86
  go_wp2_with (first
    | (refine wpList_build_as' rfl 114 _ rfl (row h0) (by kernel_rfl) ?_)
    | (rw [zw8]; refine wpList_store_row rfl 114 _ _ rfl w.heap.size (row h0) rfl rfl _ (zw 8) (heap_alloc_new _ _) (by rw [row_size]; exact Tryd.size_a8) (by rw [zw_size, row_size]; rfl) (row_one _) ?_))
  refine bodyPost_ret (v := .agg (row h0)) ?_ rfl ⟨rfl, ((Kept.refl [] w).alloc _).setRow (by simp) _⟩
  exact results_cell_row rfl _ _ w.heap.size _ (row h0) (0, 0) _ rfl (setRow_heap _ _ _ _ _ _ (heap_alloc_new _ _)) Tryd.underlying114 rfl (by rw [row_size]; exact Tryd.size_a8)
end Go.Proofs.YtbbjbpjpejekgaaDoor
