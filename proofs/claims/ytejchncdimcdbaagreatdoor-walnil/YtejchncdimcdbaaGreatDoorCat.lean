import Derived.Test.YtejchncdimcdbaaGreatDoorJoin
namespace Go.Proofs.YtejchncdimcdbaaGreatDoor
open Go.RowKit
theorem rd_lit {w : World} {g : Nat} {bs : List Nat} {cs : Array Value} (h : w.heap[g]? = some (.cells cs 5 (0, 0))) (hc : cs = (bs.map u8).toArray) (hb : ∀ x ∈ bs, x < 256) (n : Nat) (hn : bs.length = n) (hl : n ≤ 140737488355328) :
    Rd w (.slice (some ⟨g, 0, none⟩) n n) bs := by
  subst hc; subst hn; exact rd_fresh h hb hl
end Go.Proofs.YtejchncdimcdbaaGreatDoor
