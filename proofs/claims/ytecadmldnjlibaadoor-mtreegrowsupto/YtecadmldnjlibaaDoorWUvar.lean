import Derived.Test.YtecadmldnjlibaaDoorWr
namespace Go.Proofs.YtecadmldnjlibaaDoor
set_option linter.unusedVariables false
set_option maxRecDepth 100000
set_option linter.unusedSimpArgs false
open Go.RowKit

end Go.Proofs.YtecadmldnjlibaaDoor
