import Derived.Test.YthampopakcdgnaaERead
namespace Go.Proofs.Ythampopakcdgnaa
open Go.RowKit Go.BigFrame
set_option linter.unusedVariables false
set_option linter.unusedSimpArgs false

theorem assert_gave (t : TypeId) (v : Value) (w : World) : (Instr.typeAssert (.iface 77 v) t 77 true).run Try.prog w = .ok (.tuple #[v, .bool true]) w := by
  unfold Instr.typeAssert
  simp [run_underlying Try.underlying77]

set_option maxRecDepth 100000 in
set_option maxHeartbeats 1000000 in
theorem reason_any (f : Nat) (w : World) : Calls Try.prog 21 #[.iface 77 (.agg #[.int .i64 (f : Int)])] w fun r w' => r = .returned (.int .i64 f) ∧ Kept [] w w' := by
  have HK := hide ((Kept.refl [] w).alloc (.cells #[.int .i64 (f : Int)] 77))
  have HK2 := hide (((Kept.refl [] w).alloc (.cells #[.int .i64 0] 77)).setCell (p := ⟨w.heap.size, 0, none⟩) (by simp) (.int .i64 (f : Int)))
  have ha := assert_gave
  go_enter Try.func21, Try.ntmps21
  go_wp2
  go_ret
  first | exact ⟨rfl, unhide HK⟩ | exact ⟨rfl, unhide HK2⟩

set_option maxRecDepth 100000 in
theorem catchE_idle (ge gf : Nat) (w : World) :
    CallsD Try.prog 26 #[.pointer (some ⟨ge, 0, none⟩), .pointer (some ⟨gf, 0, none⟩)] .returning w fun e u' w' => e = .returned (.tuple #[]) ∧ u' = .returning ∧ w' = w := by
  refine callsD_of_wpS Try.func26 rfl fun c₀ cs hu => ?_
  apply wpS_seq
  apply wpS_region
  simp [wpOpsS, go_sem, recoverD, hu, Try.ntmps26, Exit.thenS]
  refine wpS_of_wp ?_
  go_wp2
  cases c₀
  simp_all [bodyPostS, results, Try.results26]

set_option maxRecDepth 100000 in
theorem catchE_gave (f ge gf : Nat) (w : World) (a b c x : Value) (he : w.heap[ge]? = some (.cells #[a, b, c] 25 (0, 0))) (hf : w.heap[gf]? = some (.cells #[x] 27 (0, 0))) (hne : ge ≠ gf) :
    CallsD Try.prog 26 #[.pointer (some ⟨ge, 0, none⟩), .pointer (some ⟨gf, 0, none⟩)] (.panicking (gave f)) w fun e u' w' => e = .returned (.tuple #[]) ∧ u' = .panicking [{ v := .iface 77 (.agg #[.int .i64 (f : Int)]), recovered := true }] ∧
      (w'.heap[ge]? = some (.cells #[.int .u8 0, .slice none 0 0, .slice none 0 0] 25 (0, 0)) ∧ w'.heap[gf]? = some (.cells #[.int .i64 (f : Int)] 27 (0, 0)) ∧ Kept [ge, gf] w w') := by
  have HE := hide he
  have HF := hide hf
  clear he hf
  unfold gave
  refine callsD_of_wpS Try.func26 rfl fun c₀ cs hu => ?_
  apply wpS_seq
  apply wpS_region
  simp [wpOpsS, go_sem, recoverD, hu, Try.ntmps26, Exit.thenS]
  refine wpS_of_wp ?_
  go_wp2_with fail
  refine Calls.mono (reason_any f w) ?_
  rintro r w1 ⟨rfl, k1⟩
  have HE1 := hide (k1.heap (unhide HE) (by simp))
  have HF1 := hide (k1.heap (unhide HF) (by simp))
  have HK1 := hide k1
  clear k1
  have s0 := cell_of_row _ _ 0 _ _ _ (unhide HE1)
  have s1 := cell_of_row _ _ 1 _ _ _ (unhide HE1)
  have s2 := cell_of_row _ _ 2 _ _ _ (unhide HE1)
  have t0 := cell_of_row _ _ 0 _ _ _ (unhide HF1)
  have f0 := frozen_of_row _ _ 0 _ _ (unhide HE1)
  have f1 := frozen_of_row _ _ 1 _ _ (unhide HE1)
  have f2 := frozen_of_row _ _ 2 _ _ (unhide HE1)
  have g0 := frozen_of_row _ _ 0 _ _ (unhide HF1)
  have hne' : gf ≠ ge := fun h => hne h.symm
  have HG1 := hide (eput3_heap (unhide HE1) (.int .u8 0) (.slice none 0 0) (.slice none 0 0))
  have kp := eput3_kept (Kept.refl [ge] w1) ge (Or.inl (by simp)) (.int .u8 0) (.slice none 0 0) (.slice none 0 0)
  have HG2 := hide (heap_setCell_same _ gf 0 _ 27 (.int .i64 (f : Int)) (kp.heap (unhide HF1) (by simpa using hne')))
  have HG3 := hide (((Kept.refl [gf] _).setCell (p := ⟨gf, 0, none⟩) (Or.inl (by simp)) (.int .i64 (f : Int))).heap (unhide HG1) (by simpa using hne))
  have HK2 := hide ((eput3_kept ((unhide HK1).mono (M := [ge, gf]) (by simp)) ge (Or.inl (by simp)) (.int .u8 0) (.slice none 0 0) (.slice none 0 0)).setCell (p := ⟨gf, 0, none⟩) (Or.inl (by simp)) (.int .i64 (f : Int)))
  clear kp
  go_wp2
  cases c₀
  simp_all [bodyPostS, results, Try.results26]
  exact ⟨unhide HG3, unhide HG2, unhide HK2⟩
end Go.Proofs.Ythampopakcdgnaa
