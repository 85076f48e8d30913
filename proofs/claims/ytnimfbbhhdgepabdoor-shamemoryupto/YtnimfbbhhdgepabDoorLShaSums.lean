import Derived.Test.YtnimfbbhhdgepabDoorSAw
import Derived.Test.YtnimfbbhhdgepabDoorRSum
import Derived.Test.YtnimfbbhhdgepabDoorSTwin
namespace Go.Proofs.YtnimfbbhhdgepabDoor
open Go.RowKit
set_option linter.unusedVariables false
set_option linter.unusedSimpArgs false

theorem Tabs.k {w w' : World} (h : Tabs w) (k : Kept [] w w') : Tabs w' := h.kept k (by simp) (by simp)

end Go.Proofs.YtnimfbbhhdgepabDoor
