import Derived.Test.YtkcanelboloihaaRBlob
import Derived.Test.YtkcanelboloihaaJoin
namespace Go.Proofs.Ytkcanelboloihaa
theorem getD_byte {p : List Nat} (h : ∀ x ∈ p, x < 256) (i : Nat) : p.getD i 0 < 256 := by
  rw [List.getD_eq_getElem?_getD]
  rcases Nat.lt_or_ge i p.length with hi | hi
  · rw [List.getElem?_eq_getElem hi]; exact h _ (List.getElem_mem hi)
  · rw [List.getElem?_eq_none hi]; decide
end Go.Proofs.Ytkcanelboloihaa
