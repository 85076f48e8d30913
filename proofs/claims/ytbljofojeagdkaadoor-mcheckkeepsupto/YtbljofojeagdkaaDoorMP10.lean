import Derived.Test.YtbljofojeagdkaaDoorMP9
import Derived.Test.YtbljofojeagdkaaDoorMTopW
import Derived.Test.YtbljofojeagdkaaDoorMTApp
namespace Go.Proofs.YtbljofojeagdkaaDoor
open Go.RowKit Go.BigFrame
set_option linter.unusedVariables false
set_option linter.unusedSimpArgs false

/-- What the statements' tree answers. -/
def TrD (z : Int) (ls : List (List Nat)) (w : World) (e : Ending) (w' : World) : Prop :=
  (widthB z = false → e = .returned (.tuple #[.pointer none, .slice none 0 0, .bool false]) ∧ Kept [] w w') ∧
  (widthB z = true → ∃ t v qs u, e = .returned (.tuple #[.pointer (some ⟨t, 0, none⟩), u, .bool true]) ∧ TreeAt z w' t v qs ∧ leavesK qs = ls.map (cutL z.toNat) ∧ OwD w w' u (ls.map (cutL z.toNat)))
theorem cut_all {k : Nat} (h1 : 1 ≤ k) (h2 : k ≤ 32) {ls : List (List Nat)} (h : ∀ d ∈ ls, Dg d) : (ls.map (cutL k)).all (formB (k : Int)) = true := by
  rw [List.all_eq_true]
  intro x hx
  obtain ⟨d, hd, rfl⟩ := List.mem_map.1 hx
  exact cut_form h1 h2 (h d hd)

end Go.Proofs.YtbljofojeagdkaaDoor
