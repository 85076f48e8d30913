import Derived.Test.YtdnacefdihipnadWMore
import Derived.Test.YtdnacefdihipnadSame
import Derived.Test.YtdnacefdihipnadRNum
namespace Go.Proofs.Ytdnacefdihipnad
open Go.RowKit
set_option linter.unusedVariables false
set_option linter.unusedSimpArgs false

theorem uv300 : uv 300 = [172, 2] := by rw [uv_ge (by decide), uv_lt (by decide)]
theorem wide258 : wide 258 2 = [1, 2] := by decide

/-- A Writer that was just declared. -/
theorem WrAt.new (w : World) : WrAt (w.alloc (.cells #[.slice none 0 0] 27)) w.heap.size (.slice none 0 0) [] :=
  ⟨heap_alloc_new w _, World.ownsRow_nil _ _ _ _, by simp⟩

theorem rd_lit {w : World} {g : Nat} {bs : List Nat} {cs : Array Value} (h : w.heap[g]? = some (.cells cs 5 (0, 0))) (hc : cs = (bs.map u8).toArray) (hb : ∀ x ∈ bs, x < 256) (n : Nat) (hn : bs.length = n) (hl : n ≤ 140737488355328) :
    Rd w (.slice (some ⟨g, 0, none⟩) n n) bs := by
  subst hc; subst hn; exact rd_fresh h hb hl

end Go.Proofs.Ytdnacefdihipnad
