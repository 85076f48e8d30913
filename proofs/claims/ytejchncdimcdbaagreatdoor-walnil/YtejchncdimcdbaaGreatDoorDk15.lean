import Derived.Test.YtejchncdimcdbaaGreatDoorDk14
namespace Go.Proofs.YtejchncdimcdbaaGreatDoor
open Go.RowKit Go.BigFrame
set_option linter.unusedVariables false
set_option linter.unusedSimpArgs false

end Go.Proofs.YtejchncdimcdbaaGreatDoor
