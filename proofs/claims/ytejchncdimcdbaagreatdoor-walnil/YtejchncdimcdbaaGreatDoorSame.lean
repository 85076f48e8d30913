import Derived.Test.YtejchncdimcdbaaGreatDoorCloned
namespace Go.Proofs.YtejchncdimcdbaaGreatDoor
open Go.RowKit
set_option linter.unusedVariables false
set_option linter.unusedSimpArgs false

end Go.Proofs.YtejchncdimcdbaaGreatDoor
