import Derived.Test.YtnepbjnemgebiaaWr
namespace Go.Proofs.Ytnepbjnemgebiaa
set_option linter.unusedVariables false
set_option maxRecDepth 100000
set_option linter.unusedSimpArgs false
open Go.RowKit

end Go.Proofs.Ytnepbjnemgebiaa
