import Derived.Test.YtjbmafjnbncbpaaFCase
namespace Go.Proofs.Ytjbmafjnbncbpaa
open Go.RowKit Go.BigFrame
set_option linter.unusedVariables false
set_option linter.unusedSimpArgs false

end Go.Proofs.Ytjbmafjnbncbpaa
