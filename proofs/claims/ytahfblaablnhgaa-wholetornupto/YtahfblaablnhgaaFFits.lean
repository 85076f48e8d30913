import Derived.Test.YtahfblaablnhgaaFCase
namespace Go.Proofs.Ytahfblaablnhgaa
open Go.RowKit Go.BigFrame
set_option linter.unusedVariables false
set_option linter.unusedSimpArgs false

end Go.Proofs.Ytahfblaablnhgaa
