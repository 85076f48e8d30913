import Derived.Test.YtckkalmhekfnhabGreatDoorRWide
import Derived.Test.YtckkalmhekfnhabGreatDoorCat
namespace Go.Proofs.YtckkalmhekfnhabGreatDoor
open Go.RowKit
set_option linter.unusedVariables false
set_option linter.unusedSimpArgs false
attribute [local go_sem ↓] Go.wp_at_zero Go.wp_at_succ

set_option maxRecDepth 100000 in
set_option maxHeartbeats 1000000 in
/-- Join, and what it answers is new and owned. -/
theorem join_own (u v : Value) (p q : List Nat) (w : World) (hu : Rd w u p) (hv : Rd w v q) (hl : p.length + q.length ≤ 140737488355328) :
    Calls Tryz.prog 27 #[u, v] w fun e w' => ∃ lv, e = .returned lv ∧ w'.ownsRow w.heap.size 5 1 lv (p ++ q).length ((p ++ q).map u8) ∧ Kept [] w w' := by
  have HU := hide hu
  have HV := hide hv
  obtain ⟨a1, n1, c1, rfl, hn1, _⟩ := hu
  obtain ⟨a2, n2, c2, rfl, hn2, _⟩ := hv
  subst hn1
  subst hn2
  obtain ⟨i0, hi, hz0, hz1, hz2⟩ := info_parts Tryz.info5
  have hmk : ∀ W : World, (Instr.makeSlice 29 (.int .i64 0) (.int .i64 ((p.length : Int) + q.length))).run Tryz.prog W =
      .ok (.slice (some ⟨W.heap.size, 0, none⟩) 0 (p.length + q.length)) (W.alloc (.cells (zeros (p.length + q.length)).toArray 5)) := fun W => by
    have h := run_make (P := Tryz.prog) W 29 5 i0 (.int .u8 0) Tryz.underlying29 hi hz0 .i64 .i64 0 ((p.length : Int) + q.length) (by omega) (by omega) (by rw [hz2]; omega) (by omega)
    have e : ((p.length : Int) + q.length).toNat = p.length + q.length := by omega
    rw [e] at h
    simpa [hz1, Value.cells, madeZeros] using h
  clear hi hz0 hz1 hz2
  have HO := hide (World.ownsRow_made (base := w.heap.size) (e := 5) (size := 1) w (zeros (p.length + q.length)).toArray (p.length + q.length) (Nat.le_refl _) (by unfold maxLen; omega) (by simp [zeros]))
  have HU1 := hide ((unhide HU).old ((Kept.refl [] w).alloc (.cells (zeros (p.length + q.length)).toArray 5)) (by simp))
  go_enter Tryz.func27, Tryz.ntmps27
  go_wp2_with (at_builtin; first
    | (refine wpList_appendAll rfl (.tmp 12) (.tmp 13) rfl rfl _ w.heap.size (.slice (some ⟨w.heap.size, 0, none⟩) 0 (p.length + q.length)) [] p a1 p.length c1 (by exact unhide HO) (by exact unhide HU1) (by simp; omega) (by simp) rfl rfl ?_; intro ao1 cap1 w1 HO1 HG1 HA1; simp only [List.nil_append, List.length_nil, Nat.zero_add] at HO1 HA1; have HK1 := hide (((Kept.refl [] w).alloc _).grown (unhide HG1) (by intro k hk; right; simp [Value.ownBlock] at hk; omega)); have HA1' := hide (show ∀ g, (Value.slice ao1 p.length cap1).ownBlock = some g → w.heap.size ≤ g from fun g hg => ((unhide HO1).lt g hg).1); clear HG1 HA1)
    | (refine wpList_appendAll rfl (.tmp 15) (.tmp 16) rfl rfl _ w.heap.size (.slice ao1 p.length cap1) p q a2 q.length c2 (by exact unhide HO1) (by exact (unhide HV).old (unhide HK1) (by simp)) hl (by have := (unhide HK1).size; omega) (by simp [Act.eval]) (by simp [Act.eval]) ?_; intro ao2 cap2 w2 HO2 HG2 HA2; have HK2 := hide ((unhide HK1).grown (unhide HG2) (by intro k hk; right; exact unhide HA1' k hk)); clear HG2 HA2))
  go_ret
  refine ⟨_, rfl, ?_, unhide HK2⟩
  exact unhide HO2

end Go.Proofs.YtckkalmhekfnhabGreatDoor
