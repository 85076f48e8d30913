import Derived.Test.YtpjemdafbdmpcaaDoorDDoc
namespace Go.Proofs.YtpjemdafbdmpcaaDoor
open Go.RowKit Go.BigFrame
set_option linter.unusedVariables false
set_option linter.unusedSimpArgs false

def d7 : List Nat := 7 :: List.replicate 31 0
theorem lit_d7 : (#[.int .u8 7, .int .u8 0, .int .u8 0, .int .u8 0, .int .u8 0, .int .u8 0, .int .u8 0, .int .u8 0, .int .u8 0, .int .u8 0, .int .u8 0, .int .u8 0, .int .u8 0, .int .u8 0, .int .u8 0, .int .u8 0, .int .u8 0, .int .u8 0, .int .u8 0, .int .u8 0, .int .u8 0, .int .u8 0, .int .u8 0, .int .u8 0, .int .u8 0, .int .u8 0, .int .u8 0, .int .u8 0, .int .u8 0, .int .u8 0, .int .u8 0, .int .u8 0] : Array Value) = brow d7 := rfl
theorem form7 : formB 1 d7 = true := by decide

set_option maxRecDepth 100000 in
set_option maxHeartbeats 1000000 in
theorem digestForms_walk (z : Int) (d : List Nat) (w : World) (hz : -9223372036854775808 ≤ z ∧ z ≤ 9223372036854775807) (hd : d.length = 32) (hb : ∀ x ∈ d, x < 256) (hT : Tabs w) :
    Calls Tryd.prog 3 #[.int .i64 z, .agg (brow d)] w fun e w' => e = .returned (.bool true) ∧ Below w.heap.size w w' := by
  have HB := hide hb
  have HT := hide hT
  clear hb hT
  go_enter Tryd.func3, Tryd.ntmps3
  go_wp2_with fail
  have HA := hide (heap_alloc_new w (.cells (brow d) 23))
  have HK := hide ((Kept.refl [] w).alloc (.cells (brow d) 23))
  obtain ⟨W, hW⟩ : ∃ W, w.alloc (.cells (brow d) 23) = W := ⟨_, rfl⟩
  rw [hW] at HA HK ⊢
  clear hW
  have hne : ∀ p : Prop, (∀ w', Kept [] W w' → p) = p := fun p => propext ⟨fun h => h W (Kept.refl [] W), fun h _ _ => h⟩
  have HZZ := hide (by rw [brow_size, hd]; exact Tryd.size_dig : (Tryd.prog.info? 23).map (·.size) = some (brow d).size)
  have HC1 := hide (fun w' (hw' : Kept [] W w') => (dawake_any w' ((unhide HT).k ((unhide HK).trans hw' (by simp)))).mono (fun e w2 (h2 : _ ∧ _) => (⟨h2.1, hw'.trans h2.2 (by simp)⟩ : _ ∧ Kept [] W w2)))
  have HC2 := hide (fun w' (hw' : Kept [] W w') => (form_any 1 d7 w' (by decide) rfl (by decide)).mono (fun e w2 (h2 : _ ∧ _) => (⟨h2.1, hw'.trans h2.2 (by simp)⟩ : _ ∧ Kept [] W w2)))
  have HC3 := hide (fun w' (hw' : Kept [] W w') => (form_any z d w' hz hd (unhide HB)).mono (fun e w2 (h2 : _ ∧ _) => (⟨h2.1, hw'.trans h2.2 (by simp)⟩ : _ ∧ Kept [] W w2)))
  have HC4 := hide (fun w' (hw' : Kept [] W w') => (docForm_any z d w' hz hd (unhide HB)).mono (fun e w2 (h2 : _ ∧ _) => (⟨h2.1, hw'.trans h2.2 (by simp)⟩ : _ ∧ Kept [] W w2)))
  rw [form7] at HC2
  generalize formB z d = q at HC3 HC4
  refine wp_region_keep (by kernel_rfl) (by kernel_rfl) ?_
  go_big_quiet_want
  go_big_quiet_op
  apply Exists.intro
  refine ⟨fun w' hw' => ?_, ?_⟩
  · exact unhide HC1 w' hw'
  go_big_quiet_on
  go_big_quiet_step (fail)
  go_big_quiet_step (fail)
  go_big_quiet_want
  go_big_quiet_op
  apply Exists.intro
  refine ⟨fun w' hw' => ?_, ?_⟩
  · exact unhide HC2 w' hw'
  go_big_quiet_on
  go_big_quiet_step (fail)
  go_big_quiet_step (fail)
  go_big_quiet_step (fail)
  refine wpQuiet_row rfl 23 (.tmp 3) rfl w.heap.size rfl _ (brow d) (0, 0) _ (fun w' hw' => hw'.heap (unhide HA) (by simp)) Tryd.underlying23 rfl (unhide HZZ) ?_
  simp only [Act.put, List.setIfInBounds_toArray, List.set_cons_succ, List.set_cons_zero]
  go_big_quiet_want
  go_big_quiet_op
  apply Exists.intro
  refine ⟨fun w' hw' => ?_, ?_⟩
  · exact unhide HC3 w' hw'
  go_big_quiet_on
  go_big_quiet_step (fail)
  refine wpQuiet_row rfl 23 (.tmp 3) rfl w.heap.size rfl _ (brow d) (0, 0) _ (fun w' hw' => hw'.heap (unhide HA) (by simp)) Tryd.underlying23 rfl (unhide HZZ) ?_
  simp only [Act.put, List.setIfInBounds_toArray, List.set_cons_succ, List.set_cons_zero]
  go_big_quiet_want
  go_big_quiet_op
  apply Exists.intro
  refine ⟨fun w' hw' => ?_, ?_⟩
  · exact unhide HC4 w' hw'
  go_big_quiet_on
  repeat (go_big_quiet_step (fail))
  refine wpQuiet_nil ?_
  intro w5 hw5
  have HK5 := hide ((unhide HK).trans hw5 (by simp))
  clear hw5 hne
  go_wp2
  go_ret
  exact ⟨by simp, (unhide HK5).below (Nat.le_refl _) (by simp)⟩
end Go.Proofs.YtpjemdafbdmpcaaDoor
