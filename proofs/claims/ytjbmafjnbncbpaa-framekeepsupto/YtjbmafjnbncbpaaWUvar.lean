import Derived.Test.YtjbmafjnbncbpaaWr
namespace Go.Proofs.Ytjbmafjnbncbpaa
set_option linter.unusedVariables false
set_option maxRecDepth 100000
set_option linter.unusedSimpArgs false
open Go.RowKit

end Go.Proofs.Ytjbmafjnbncbpaa
