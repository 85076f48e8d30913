import Derived.Test.YtejchncdimcdbaaGreatDoorDkM
import Derived.Test.YtejchncdimcdbaaGreatDoorCat
import Derived.BigFrame
namespace Go.Proofs.YtejchncdimcdbaaGreatDoor
open Go.RowKit Go.BigFrame
set_option linter.unusedVariables false
set_option linter.unusedSimpArgs false

def wtn (n m : Int) : Int := min (max n 0) m
set_option maxRecDepth 100000 in
set_option maxHeartbeats 1000000 in
theorem within_any (n m : Int) (w : World) :
    Calls Tryz.prog 74 #[.int .i64 n, .int .i64 m] w fun e w' => e = .returned (.int .i64 (wtn n m)) ∧ w' = w := by
  go_enter Tryz.func74, Tryz.ntmps74
  go_wp2
  all_goals
    go_ret
    refine ⟨?_, rfl⟩
    simp
    unfold wtn
    (repeat' split at *) <;> omega
def nameB (b : Nat) : Bool := decide (97 ≤ b ∧ b ≤ 122) || decide (48 ≤ b ∧ b ≤ 57) || decide (b = 45)
set_option maxRecDepth 100000 in
set_option maxHeartbeats 1000000 in
theorem isNameByte_any (b : Nat) (w : World) (hb : b < 256) :
    Calls Tryz.prog 127 #[.int .u8 b] w fun e w' => e = .returned (.bool (nameB b)) ∧ w' = w := by
  go_enter Tryz.func127, Tryz.ntmps127
  go_wp2
  all_goals
    go_ret
    refine ⟨?_, rfl⟩
    simp
    unfold nameB
    rw [Bool.eq_iff_iff]
    simp
    omega
end Go.Proofs.YtejchncdimcdbaaGreatDoor
