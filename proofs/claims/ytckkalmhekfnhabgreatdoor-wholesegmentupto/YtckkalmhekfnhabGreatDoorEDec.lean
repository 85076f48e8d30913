import Derived.Test.YtckkalmhekfnhabGreatDoorERead
namespace Go.Proofs.YtckkalmhekfnhabGreatDoor
open Go.RowKit Go.BigFrame
set_option linter.unusedVariables false
set_option linter.unusedSimpArgs false

theorem assert_gave (t : TypeId) (v : Value) (w : World) : (Instr.typeAssert (.iface 199 v) t 199 true).run Tryz.prog w = .ok (.tuple #[v, .bool true]) w := by
  unfold Instr.typeAssert
  simp [run_underlying Tryz.underlying199]

set_option maxRecDepth 100000 in
set_option maxHeartbeats 1000000 in
theorem reason_any (f : Nat) (w : World) : Calls Tryz.prog 113 #[.iface 199 (.agg #[.int .i64 (f : Int)])] w fun r w' => r = .returned (.int .i64 f) ∧ Kept [] w w' := by
  have HK := hide ((Kept.refl [] w).alloc (.cells #[.int .i64 (f : Int)] 199))
  have HK2 := hide (((Kept.refl [] w).alloc (.cells #[.int .i64 0] 199)).setCell (p := ⟨w.heap.size, 0, none⟩) (by simp) (.int .i64 (f : Int)))
  have ha := assert_gave
  go_enter Tryz.func113, Tryz.ntmps113
  go_wp2
  go_ret
  first | exact ⟨rfl, unhide HK⟩ | exact ⟨rfl, unhide HK2⟩

end Go.Proofs.YtckkalmhekfnhabGreatDoor
