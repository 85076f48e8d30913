import Derived.Test.YtgnbigijpneebaaDoorBunE
namespace Go.Proofs.YtgnbigijpneebaaDoor
open Go.RowKit Go.BigFrame
set_option linter.unusedVariables false
set_option linter.unusedSimpArgs false

def widthN3 (z : Int) : Nat := (z % 32).toNat + 1

set_option maxRecDepth 100000 in
set_option maxHeartbeats 1000000 in
theorem width_any (z : Int) (w : World) (hz : -9223372036854775808 ≤ z ∧ z ≤ 9223372036854775807) :
    Calls Tryd.prog 24 #[.int .i64 z] w fun e w' => e = .returned (.int .i64 (widthN3 z)) ∧ w' = w := by
  have ht : Int.tmod z 32 = if z % 32 = 0 ∨ 0 ≤ z then z % 32 else z % 32 - 32 := by
    rw [Int.tmod_eq_emod]
    split <;> split <;> omega
  by_cases hn : z % 32 = 0 ∨ 0 ≤ z
  · rw [if_pos hn] at ht
    have h0 : ¬ z % 32 < 0 := by omega
    have hW := hide (by unfold widthN3; omega : ((widthN3 z : Nat) : Int) = z % 32 + 1)
    go_enter Tryd.func24, Tryd.ntmps24
    go_wp2
    go_ret
    exact ⟨by rw [unhide hW]; rfl, rfl⟩
  · rw [if_neg hn] at ht
    have h0 : z % 32 - 32 < 0 := by omega
    have hW := hide (by unfold widthN3; omega : ((widthN3 z : Nat) : Int) = z % 32 + 1)
    go_enter Tryd.func24, Tryd.ntmps24
    go_wp2
    go_ret
    exact ⟨by rw [unhide hW]; rfl, rfl⟩
end Go.Proofs.YtgnbigijpneebaaDoor
