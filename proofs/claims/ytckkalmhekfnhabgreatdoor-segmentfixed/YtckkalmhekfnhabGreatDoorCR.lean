import Derived.Test.YtckkalmhekfnhabGreatDoorCJn
import Derived.Test.YtckkalmhekfnhabGreatDoorCrcRef
namespace Go.Proofs.YtckkalmhekfnhabGreatDoor
open Go.RowKit
set_option linter.unusedVariables false
set_option linter.unusedSimpArgs false

set_option maxRecDepth 100000 in
set_option maxHeartbeats 1000000 in
theorem turned_any (c : Nat) (w : World) (hc : c < 4294967296) :
    Calls Tryz.prog 151 #[.int .u32 c] w fun x w' => x = .returned (.int .u32 (rv 32 c)) ∧ w' = w := by
  go_enter Tryz.func151, Tryz.ntmps151
  go_wp2
  go_loopw [3, 4] (fun t3 t4 wr => ∃ k y : Nat, k ≤ 32 ∧ t3 = .int .u32 y ∧ t4 = .int .i64 k ∧ y < 2 ^ k ∧ Hid (y = rv k c) ∧ wr = w) (fun _ t _ => 32 - (intOf t).toNat)
  case atStart => exact ⟨0, 0, by omega, rfl, rfl, by omega, hide rfl, rfl⟩
  case round =>
    obtain ⟨k, y, hk, rfl, rfl, hyk, Hy, rfl⟩ := hrel
    by_cases hlt : k < 32
    · have hlt' : (k : Int) < 32 := by omega
      have hy2 : y < 2147483648 := Nat.lt_of_lt_of_le hyk (Nat.le_trans (Nat.pow_le_pow_right (by omega) (show k ≤ 31 by omega)) (by decide))
      have HP := hide (show y * 2 + c / 2 ^ k % 2 < 2 ^ (k + 1) by rw [Nat.pow_succ]; omega)
      have hd : (c : Int) / 2 ^ k = ((c / 2 ^ k : Nat) : Int) := by simp
      have hdl : c / 2 ^ k ≤ c := Nat.div_le_self _ _
      have HR := hide (show y * 2 + c / 2 ^ k % 2 = rv (k + 1) c by rw [unhide Hy]; rfl)
      generalize c / 2 ^ k = d at hd hdl HP HR
      clear hyk
      go_wp2
      go_roundw
      case rel =>
        refine ⟨k + 1, y * 2 + d % 2, by omega, ?_, by go_num, unhide HP, HR, trivial⟩
        go_num
      case measure => simp [intOf]; omega
    · have hlt' : ¬ (k : Int) < 32 := by omega
      have hk8 : k = 32 := by omega
      subst hk8
      go_wp2
      go_ret
      exact ⟨by rw [unhide Hy]; rfl, rfl⟩

set_option maxRecDepth 100000 in
set_option maxHeartbeats 1000000 in
theorem double_any (r : Nat) (w : World) (hr : r < 4294967296) :
    Calls Tryz.prog 152 #[.int .u32 r] w fun x w' => x = .returned (.int .u32 (dbl r)) ∧ w' = w := by
  by_cases h : 2147483648 ≤ r
  · have h' : (2147483648 : Int) ≤ r := by omega
    have hx : bits .xor .u32 ((r : Int) * 2 % 4294967296) 517762881 = (dbl r : Nat) := by
      rw [dbl_big h hr, show ((r : Int) * 2 % 4294967296) = ((r * 2 % 4294967296 : Nat) : Int) by omega, show (517762881 : Int) = ((517762881 : Nat) : Int) from rfl, u32_xor_nat _ _ (by omega) (by decide)]
    go_enter Tryz.func152, Tryz.ntmps152
    go_wp2
    go_ret
    exact ⟨rfl, rfl⟩
  · have h' : ¬ (2147483648 : Int) ≤ r := by omega
    go_enter Tryz.func152, Tryz.ntmps152
    go_wp2
    go_ret
    exact ⟨by rw [dbl_small (by omega)]; simp, rfl⟩

end Go.Proofs.YtckkalmhekfnhabGreatDoor
