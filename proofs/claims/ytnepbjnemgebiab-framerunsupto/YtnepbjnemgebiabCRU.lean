import Derived.Test.YtnepbjnemgebiabCR
namespace Go.Proofs.Ytnepbjnemgebiab
open Go.RowKit
set_option linter.unusedVariables false
set_option linter.unusedSimpArgs false

end Go.Proofs.Ytnepbjnemgebiab
