import Derived.Test.YtclgblilgpfllabRowz
import Derived.Deep.WholeRow
namespace Go.Proofs.Ytclgblilgpfllab
theorem list_ext_getD {p q : List Nat} (hl : p.length = q.length) (h : ∀ j, j < p.length → p.getD j 0 = q.getD j 0) : p = q := by
  apply List.ext_getElem hl
  intro i h1 h2
  have := h i h1
  simpa [List.getD_eq_getElem?_getD, List.getElem?_eq_getElem h1, List.getElem?_eq_getElem h2] using this
end Go.Proofs.Ytclgblilgpfllab
