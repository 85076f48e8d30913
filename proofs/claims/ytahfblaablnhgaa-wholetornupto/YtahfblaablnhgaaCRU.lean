import Derived.Test.YtahfblaablnhgaaCR
namespace Go.Proofs.Ytahfblaablnhgaa
open Go.RowKit
set_option linter.unusedVariables false
set_option linter.unusedSimpArgs false

end Go.Proofs.Ytahfblaablnhgaa
