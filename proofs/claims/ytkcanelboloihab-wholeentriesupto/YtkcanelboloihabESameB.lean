import Derived.Test.YtkcanelboloihabEDecB
import Derived.Test.YtkcanelboloihabQMid
namespace Go.Proofs.Ytkcanelboloihab
open Go.RowKit Go.BigFrame
set_option linter.unusedVariables false
set_option linter.unusedSimpArgs false

theorem take_same {α : Type} (a b : List α) (i : Nat) (ha : i < a.length) (hb : i < b.length) (h : a.take i = b.take i) (x : a[i] = b[i]) : a.take (i + 1) = b.take (i + 1) := by
  rw [List.take_succ_eq_append_getElem ha, List.take_succ_eq_append_getElem hb, h, x]

end Go.Proofs.Ytkcanelboloihab
