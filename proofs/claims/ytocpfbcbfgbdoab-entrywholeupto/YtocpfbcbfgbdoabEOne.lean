import Derived.Test.YtocpfbcbfgbdoabESameB
namespace Go.Proofs.Ytocpfbcbfgbdoab
open Go.RowKit Go.BigFrame
set_option linter.unusedVariables false
set_option linter.unusedSimpArgs false

end Go.Proofs.Ytocpfbcbfgbdoab
