import Derived.Test.YtchhdnemicjahaaDoorSAw
import Derived.Test.YtchhdnemicjahaaDoorSDoc
import Derived.Test.YtchhdnemicjahaaDoorSSame
namespace Go.Proofs.YtchhdnemicjahaaDoor
open Go.RowKit
set_option linter.unusedVariables false
set_option linter.unusedSimpArgs false

theorem pad_len_le (n : Nat) : (pad n).length ≤ 140737488355328 := by
  have := padZ_le n
  rw [pad_len]; omega

set_option maxRecDepth 100000 in
set_option maxHeartbeats 1000000 in
theorem shaPads_walk (n : Nat) (w : World) (hn : n < 18446744073709551616) (hT : Tabs w) :
    Calls Tryd.prog 5 #[.int .u64 n] w fun e w' => e = .returned (.bool true) ∧ Below w.heap.size w w' := by
  have HT := hide hT
  clear hT
  go_enter Tryd.func5, Tryd.ntmps5
  go_wp2_with fail
  refine (shaAwake_any w (unhide HT)).mono ?_
  rintro e w1 ⟨rfl, k1⟩
  have HK1 := hide k1
  clear k1
  go_wp2_with fail
  refine (padding_any n w1 hn).mono ?_
  rintro e w2 ⟨rfl, hr, k2⟩
  have HR := hide (rd_mark hr rfl (pad_byte n) _ rfl (pad_len_le n))
  have HK2 := hide ((unhide HK1).trans k2 (by simp))
  clear k2 hr
  go_wp2_with fail
  refine (docPadding_any n w2 hn).mono ?_
  rintro e w3 ⟨lv, rfl, hr, k3⟩
  have HR2 := hide hr
  have HR1 := hide ((unhide HR).old k3 (by simp))
  have HK3 := hide ((unhide HK2).trans k3 (by simp))
  clear k3 hr
  go_wp2_with fail
  refine (ssame_any _ lv (pad n) (pad n) w3 (unhide HR1) (unhide HR2)).mono ?_
  rintro e w4 ⟨rfl, m, rfl⟩
  simp only [decide_true]
  go_wp2
  go_ret
  exact ⟨rfl, ((unhide HK3).drewN m).below (Nat.le_refl _) (by simp)⟩
end Go.Proofs.YtchhdnemicjahaaDoor
