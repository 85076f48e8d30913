/-
  Closed facts of the program: the byte type's row of the table.
-/
import Derived.Test.YtlopdlcepmmjdaaRows
import Derived.Test.YtlopdlcepmmjdaaBase
import Derived.Test.YtlopdlcepmmjdaaNum
namespace Go.Proofs.Ytlopdlcepmmjdaa
open Go.RowKit
theorem Try.info5 : (Try.prog.info? 5).map (fun i => (i.zero, i.size, i.bytes)) = some (some (.int .u8 0), 1, 1) := by kernel_rfl
theorem Try.size5 : (Try.prog.info? 5).map (·.size) = some 1 := by kernel_rfl
end Go.Proofs.Ytlopdlcepmmjdaa
