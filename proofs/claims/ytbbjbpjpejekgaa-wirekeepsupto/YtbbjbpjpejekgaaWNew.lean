import Derived.Test.YtbbjbpjpejekgaaWAll
import Derived.Test.YtbbjbpjpejekgaaJoin
namespace Go.Proofs.Ytbbjbpjpejekgaa
open Go.RowKit
set_option linter.unusedVariables false
/-- The value v is the list bs, in memory that was not there in w. -/
def NewB (w w' : World) (v : Value) (bs : List Nat) : Prop :=
  Rd w' v bs ∧ ((bs = [] ∧ v = .slice none 0 0) ∨ ∃ g, v = .slice (some ⟨g, 0, none⟩) bs.length bs.length ∧ w.heap.size ≤ g ∧ w'.heap[g]? = some (.cells (bs.map u8).toArray 5 (0, 0)))
theorem NewB.weak {w0 w w' : World} {v : Value} {bs : List Nat} (h : NewB w w' v bs) (k : w0.heap.size ≤ w.heap.size) : NewB w0 w' v bs :=
  ⟨h.1, h.2.imp id fun ⟨g, h1, h2, h3⟩ => ⟨g, h1, Nat.le_trans k h2, h3⟩⟩
theorem NewB.nil (w w' : World) : NewB w w' (.slice none 0 0) [] := ⟨Rd.nil _, Or.inl ⟨rfl, rfl⟩⟩
theorem NewB.mk {w w' : World} {g : Nat} {bs : List Nat} (hg : w.heap.size ≤ g) (h : w'.heap[g]? = some (.cells (bs.map u8).toArray 5 (0, 0))) (hb : ∀ x ∈ bs, x < 256) (hl : bs.length ≤ 140737488355328) : NewB w w' (.slice (some ⟨g, 0, none⟩) bs.length bs.length) bs :=
  ⟨rd_fresh h hb hl, Or.inr ⟨g, rfl, hg, h⟩⟩

end Go.Proofs.Ytbbjbpjpejekgaa
