import Derived.Test.YtbljofojeagdkaaDoorMP2
import Derived.Test.YtbljofojeagdkaaDoorMP3
import Derived.Test.YtbljofojeagdkaaDoorMTRng
namespace Go.Proofs.YtbljofojeagdkaaDoor
open Go.RowKit Go.BigFrame
set_option linter.unusedVariables false
set_option linter.unusedSimpArgs false

/-- A list of ranges in memory of its own. -/
def SpAt (w0 w : World) (v : Value) (ss : List (Nat × Nat)) : Prop := ∃ base, w0.heap.size ≤ base ∧ w.ownsRow base 101 2 v ss.length (cellsS ss)
theorem SpAt.form {w0 w : World} {v : Value} {ss : List (Nat × Nat)} (h : SpAt w0 w v ss) : ∃ ao cap, v = .slice ao ss.length cap := by
  obtain ⟨base, _, h⟩ := h
  rcases h.2 with ⟨rfl, h0⟩ | ⟨g, cap, cur, rfl, _⟩
  · exact ⟨none, 0, by rw [h0]⟩
  · exact ⟨_, cap, rfl⟩
theorem SpAt.old {w0 w w' : World} {v : Value} {ss : List (Nat × Nat)} (h : SpAt w0 w v ss) (k : Kept [] w w') : SpAt w0 w' v ss := by
  obtain ⟨base, hb, h⟩ := h
  exact ⟨base, hb, k.owns h (by simp)⟩

set_option maxRecDepth 100000 in
set_option maxHeartbeats 1000000 in
theorem path_any (i n : Nat) (w : World) (hi : i < n) (hn : n < 18446744073709551616) :
    Calls Tryd.prog 36 #[.int .u64 i, .int .u64 n] w fun e w' => ∃ v, e = .returned v ∧ SpAt w w' v (pathF i 64 0 n) ∧ Kept [] w w' := by
  have k0 := ((Kept.refl [] w).alloc (.cells #[.int .u64 (i : Int)] 24)).alloc (.cells #[.slice none 0 0] 74)
  have G3 := alloc3_at w (.cells #[.int .u64 (i : Int)] 24) (.cells #[.slice none 0 0] 74) (.cells #[.nilFunc] 102)
  have cS := cell_of_row _ _ 0 _ _ _ G3
  have fS := frozen_of_row _ _ 0 _ _ G3
  rw [show (#[Value.nilFunc] : Array Value)[0]? = some .nilFunc from rfl] at cS
  have k2 := k0.alloc (.cells #[pathV w.heap.size (w.heap.size + 1 + 1) (w.heap.size + 1)] 102)
  have G4 := alloc3_at w (.cells #[.int .u64 (i : Int)] 24) (.cells #[.slice none 0 0] 74) (.cells #[pathV w.heap.size (w.heap.size + 1 + 1) (w.heap.size + 1)] 102)
  have GT := (((Kept.refl [] (w.alloc (.cells #[.int .u64 (i : Int)] 24))).alloc (.cells #[.slice none 0 0] 74)).alloc (.cells #[pathV w.heap.size (w.heap.size + 1 + 1) (w.heap.size + 1)] 102)).heap (heap_alloc_new w (.cells #[.int .u64 (i : Int)] 24)) (by simp)
  have GZ := ((Kept.refl [] ((w.alloc (.cells #[.int .u64 (i : Int)] 24)).alloc (.cells #[.slice none 0 0] 74))).alloc (.cells #[pathV w.heap.size (w.heap.size + 1 + 1) (w.heap.size + 1)] 102)).heap (alloc2_at w (.cells #[.int .u64 (i : Int)] 24) (.cells #[.slice none 0 0] 74)) (by simp)
  obtain ⟨X, hX⟩ : ∃ X, ((w.alloc (.cells #[.int .u64 (i : Int)] 24)).alloc (.cells #[.slice none 0 0] 74)).alloc (.cells #[pathV w.heap.size (w.heap.size + 1 + 1) (w.heap.size + 1)] 102) = X := ⟨_, rfl⟩
  have hsz : X.heap.size = w.heap.size + 3 := by rw [← hX]; simp
  rw [hX] at k2 G4 GT GZ
  have HL := (⟨Kept.refl _ _, GZ, World.ownsRow_nil _ _ _ _, by omega⟩ : Lst X (w.heap.size + 1) [] X (.slice none 0 0))
  have HP := (⟨G4, GT, ⟨by omega, by omega⟩, ⟨by omega, by omega⟩⟩ : PathW w.heap.size (w.heap.size + 1 + 1) i (w.heap.size + 1) X X)
  have HC := hide (pathC_any X w.heap.size (w.heap.size + 1 + 1) (w.heap.size + 1) i 64 0 n [] (.slice none 0 0) X (by omega) (by omega) hn (by simp) HL HP)
  have HX := hide (by rw [hsz]; omega : w.heap.size ≤ X.heap.size)
  have HK := hide k2
  rw [List.nil_append] at HC
  unfold pathV at hX
  have HXE := hide hX
  clear k0 k2 G3 G4 GT GZ HL HP hX hsz
  go_enter Tryd.func36, Tryd.ntmps36
  go_wp2_with (rw [run_store _ _ _ _ _ (by rfl), cS]; simp only [fS, Bool.false_eq_true, if_false, Result.andThen_ok])
  rw [unhide HXE]
  refine (unhide HC).mono ?_
  rintro e w5 ⟨rfl, u, l5, _⟩
  have cu := cell_of_row _ _ 0 _ _ _ l5.row
  simp at cu
  have HL5 := hide l5
  clear l5 cS fS HC
  go_wp2_with fail
  go_ret
  exact ⟨u, rfl, ⟨_, unhide HX, (unhide HL5).own⟩, (unhide HK).trans (unhide HL5).kept (by intro x hx; right; simp at hx; omega)⟩
end Go.Proofs.YtbljofojeagdkaaDoor
