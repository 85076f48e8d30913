import Derived.Test.YtbljofojeagdkaaDoorMPath
import Derived.Test.YtbljofojeagdkaaDoorMPA
namespace Go.Proofs.YtbljofojeagdkaaDoor
open Go.RowKit Go.BigFrame
set_option linter.unusedVariables false
set_option linter.unusedSimpArgs false

set_option maxRecDepth 100000 in
set_option maxHeartbeats 1000000 in
theorem twinD_any (v : Value) (ds : List (List Nat)) (w : World) (hv : RdD w v ds) (hl : ds.length ≤ 1048576) :
    Calls Tryd.prog 7 #[v] w fun e w' => ∃ u, e = .returned u ∧ RdD w' u ds ∧ Kept [] w w' ∧ w'.ownsRow w.heap.size 23 32 u ds.length (flatD ds) := by
  have HV := hide hv
  obtain ⟨ao, len, cap, rfl, h1, h2, h3, h4, h5⟩ := hv
  subst h1
  clear h4 h5
  go_enter Tryd.func7, Tryd.ntmps7
  have HO := hide (World.ownsRow_made (base := w.heap.size) (e := 23) (size := 32) w #[] 0 (Nat.le_refl _) (by unfold maxLen; omega) (by simp))
  have HV1 := hide ((unhide HV).old ((Kept.refl [] w).alloc (.cells #[] 23)))
  go_wp2_with (at_builtin; refine wpList_appendD rfl (.tmp 3) (.tmp 4) rfl rfl _ w.heap.size (.slice (some ⟨w.heap.size, 0, none⟩) 0 0) [] ds ao ds.length cap (by exact unhide HO) (by exact unhide HV1) (by simp; omega) (by simp) rfl rfl ?_; intro ao1 cap1 w1 HO1 HG1; simp only [List.nil_append, List.length_nil, Nat.zero_add] at HO1; have HK1 := hide (((Kept.refl [] w).alloc _).grown (unhide HG1) (by intro k hk; right; simp [Value.ownBlock] at hk; omega)); clear HG1; simp only [List.length_nil, Nat.zero_add])
  go_ret
  exact ⟨_, rfl, rdd_owns (unhide HO1) (fun d hd => (unhide HV).dg hd), unhide HK1, unhide HO1⟩
end Go.Proofs.YtbljofojeagdkaaDoor
