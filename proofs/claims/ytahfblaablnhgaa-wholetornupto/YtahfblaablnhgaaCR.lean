import Derived.Test.YtahfblaablnhgaaCJn
import Derived.Test.YtahfblaablnhgaaCrcRef
namespace Go.Proofs.Ytahfblaablnhgaa
open Go.RowKit
set_option linter.unusedVariables false
set_option linter.unusedSimpArgs false

end Go.Proofs.Ytahfblaablnhgaa
