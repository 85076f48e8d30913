/-
  Closed facts of the program: the byte type's row of the table.
-/
import Derived.Test.YtbbjbpjpejekgaaDoorRows
import Derived.Test.YtbbjbpjpejekgaaDoorBase
import Derived.Test.YtbbjbpjpejekgaaDoorNum
namespace Go.Proofs.YtbbjbpjpejekgaaDoor
open Go.RowKit
theorem Tryd.info5 : (Tryd.prog.info? 5).map (fun i => (i.zero, i.size, i.bytes)) = some (some (.int .u8 0), 1, 1) := by kernel_rfl
theorem Tryd.size5 : (Tryd.prog.info? 5).map (·.size) = some 1 := by kernel_rfl
end Go.Proofs.YtbbjbpjpejekgaaDoor
