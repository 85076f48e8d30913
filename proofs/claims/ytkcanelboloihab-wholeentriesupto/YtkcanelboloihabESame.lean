import Derived.Test.YtkcanelboloihabEDoc
namespace Go.Proofs.Ytkcanelboloihab
open Go.RowKit Go.BigFrame
set_option linter.unusedVariables false
set_option linter.unusedSimpArgs false

theorem en_eq (a b : En) : decide (a = b) = (decide (a.k = b.k) && (decide (a.key = b.key) && decide (a.val = b.val))) := by
  cases a; cases b; simp

theorem eput3_heap {w : World} {g : Nat} {a b c : Value} {t : TypeId} (h : w.heap[g]? = some (.cells #[a, b, c] t (0, 0))) (x y z : Value) : (((w.setCell ⟨g, 0, none⟩ x).setCell ⟨g, 1, none⟩ y).setCell ⟨g, 2, none⟩ z).heap[g]? = some (.cells #[x, y, z] t (0, 0)) := by
  rw [heap_setCell_same _ g 2 _ t _ (heap_setCell_same _ g 1 _ t _ (heap_setCell_same w g 0 _ t _ h))]; rfl
theorem eput3_kept {L : List Nat} {w0 w : World} (k : Kept L w0 w) (g : Nat) (hg : g ∈ L ∨ w0.heap.size ≤ g) (x y z : Value) : Kept L w0 (((w.setCell ⟨g, 0, none⟩ x).setCell ⟨g, 1, none⟩ y).setCell ⟨g, 2, none⟩ z) := ((k.setCell hg x).setCell hg y).setCell hg z
theorem Try.size_entry : (Try.prog.info? 35).map (·.size) = some 3 := by kernel_rfl

end Go.Proofs.Ytkcanelboloihab
