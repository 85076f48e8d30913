import Derived.Test.YtajfaekfhohbmaaDoorWr
namespace Go.Proofs.YtajfaekfhohbmaaDoor
set_option linter.unusedVariables false
set_option maxRecDepth 100000
set_option linter.unusedSimpArgs false
open Go.RowKit

end Go.Proofs.YtajfaekfhohbmaaDoor
