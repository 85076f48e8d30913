import Derived.Test.YtcijeplafknokabDoorWr
namespace Go.Proofs.YtcijeplafknokabDoor
set_option linter.unusedVariables false
set_option maxRecDepth 100000
set_option linter.unusedSimpArgs false
open Go.RowKit

end Go.Proofs.YtcijeplafknokabDoor
