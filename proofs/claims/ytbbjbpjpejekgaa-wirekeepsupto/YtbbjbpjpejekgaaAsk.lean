import Derived.Test.YtbbjbpjpejekgaaTake
namespace Go.Proofs.Ytbbjbpjpejekgaa
open Go.RowKit
set_option linter.unusedVariables false
set_option linter.unusedSimpArgs false

/-- The count that the law's 'ask' asks for. -/
def askN (k sp : Int) (len : Nat) : Int := if k = 7 ∧ 0 < sp ∧ sp < 1099511627776 then (len : Int) + sp else len

end Go.Proofs.Ytbbjbpjpejekgaa
