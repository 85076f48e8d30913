import Derived.Test.YtialndpejechbaaQDef
namespace Go.Proofs.Ytialndpejechbaa
open Go.RowKit Go.MuLone
set_option linter.unusedVariables false
set_option linter.unusedSimpArgs false

/-- A queue at block q: so many places, its values, closed or not. -/
structure QAt (T e : TypeId) (w : World) (q : Nat) (pl : Int) (v : Value) (xs : List Value) (cl : Bool) : Prop where
  row : w.heap[q]? = some (.cells #[.int .i32 0, .int .u32 0, .int .i64 pl, v, .bool cl] T (0, 0))
  vals : Qr w e v xs

theorem noneI_any (q : Nat) (w : World) (pl : Int) (a b c d : Value) (h : w.heap[q]? = some (.cells #[a, b, .int .i64 pl, c, d] 70 (0, 0))) (hp : 1 ≤ pl) :
    Calls Try.prog 42 #[.pointer (some ⟨q, 0, none⟩)] w fun e w' => e = .returned (.bool false) ∧ w' = w := by
  have c2 := cell_of_row _ _ 2 _ _ _ h
  have hp0 : (pl == 0) = false := by simp; omega
  simp at c2
  clear h
  go_enter Try.func42, Try.ntmps42
  go_wp2
  go_ret
  simp

theorem noneI_nil (w : World) : Calls Try.prog 42 #[.pointer none] w fun e w' => e = .returned (.bool true) ∧ w' = w := by
  go_enter Try.func42, Try.ntmps42
  go_wp2
  go_ret
  exact ⟨rfl, rfl⟩

end Go.Proofs.Ytialndpejechbaa
