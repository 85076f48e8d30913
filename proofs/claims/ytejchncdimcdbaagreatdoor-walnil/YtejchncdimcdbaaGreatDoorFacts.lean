/-
  Closed facts of the program: the byte type's row of the table.
-/
import Derived.Test.YtejchncdimcdbaaGreatDoorRows
import Derived.Test.YtejchncdimcdbaaGreatDoorBase
import Derived.Test.YtejchncdimcdbaaGreatDoorNum
namespace Go.Proofs.YtejchncdimcdbaaGreatDoor
open Go.RowKit
theorem Tryz.info5 : (Tryz.prog.info? 5).map (fun i => (i.zero, i.size, i.bytes)) = some (some (.int .u8 0), 1, 1) := by kernel_rfl
theorem Tryz.size5 : (Tryz.prog.info? 5).map (·.size) = some 1 := by kernel_rfl
end Go.Proofs.YtejchncdimcdbaaGreatDoor
