/-
  Closed facts of the program: the byte type's row of the table.
-/
import Derived.Test.YthafpaenggcpdabDoorRows
import Derived.Test.YthafpaenggcpdabDoorBase
import Derived.Test.YthafpaenggcpdabDoorNum
namespace Go.Proofs.YthafpaenggcpdabDoor
open Go.RowKit
theorem Tryd.info5 : (Tryd.prog.info? 5).map (fun i => (i.zero, i.size, i.bytes)) = some (some (.int .u8 0), 1, 1) := by kernel_rfl
theorem Tryd.size5 : (Tryd.prog.info? 5).map (·.size) = some 1 := by kernel_rfl
end Go.Proofs.YthafpaenggcpdabDoor
