import Derived.Test.YtbljofojeagdkaaDoorDUnl
namespace Go.Proofs.YtbljofojeagdkaaDoor
open Go.RowKit Go.BigFrame
set_option linter.unusedVariables false
set_option linter.unusedSimpArgs false

end Go.Proofs.YtbljofojeagdkaaDoor
