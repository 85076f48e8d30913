import Derived.Test.YtckkalmhekfnhabGreatDoorEEnc
import Derived.Deep.RegionHeld3
namespace Go.Proofs.YtckkalmhekfnhabGreatDoor
open Go.RowKit Go.BigFrame
set_option linter.unusedVariables false
set_option linter.unusedSimpArgs false

theorem rd_one {w : World} {g k : Nat} (h : w.heap[g]? = some (.cells #[.int .u8 (k : Int)] 5 (0, 0))) (hk : k < 256) : Rd w (.slice (some ⟨g, 0, none⟩) 1 1) [k] :=
  rd_lit h rfl (by intro x hx; simp at hx; omega) 1 rfl (by omega)

end Go.Proofs.YtckkalmhekfnhabGreatDoor
