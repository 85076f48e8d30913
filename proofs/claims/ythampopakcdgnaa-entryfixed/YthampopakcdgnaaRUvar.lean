import Derived.Test.YthampopakcdgnaaRWide
import Derived.Test.YthampopakcdgnaaCat
namespace Go.Proofs.Ythampopakcdgnaa
open Go.RowKit
set_option linter.unusedVariables false
set_option linter.unusedSimpArgs false
attribute [local go_sem ↓] Go.wp_at_zero Go.wp_at_succ

end Go.Proofs.Ythampopakcdgnaa
