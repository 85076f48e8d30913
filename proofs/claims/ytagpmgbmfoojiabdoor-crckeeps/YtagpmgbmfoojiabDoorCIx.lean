import Derived.Test.YtagpmgbmfoojiabDoorCOf
namespace Go.Proofs.YtagpmgbmfoojiabDoor
open Go.RowKit
set_option linter.unusedVariables false
set_option linter.unusedSimpArgs false

theorem Tryd.sizeWord : (Tryd.prog.info? 22).map (·.size) = some 1 := by kernel_rfl
theorem run_index_word (ms : List Nat) (k : Nat) (w : World) (hl : ms.length = 32) (hk : k < 32) : (Instr.index 38 (.agg (row ms)) (.int .i64 k)).run Tryd.prog w = .ok (u32 (ms.getD k 0)) w := by
  have h1 : (sizeOf 22).run Tryd.prog w = .ok 1 w := by
    cases hq : Tryd.prog.info? 22 with
    | none => have := Tryd.sizeWord; rw [hq] at this; cases this
    | some i => have := Tryd.sizeWord; rw [hq] at this; simp at this; simp [sizeOf, typeInfo, hq, this]
  have h2 : (isAgg 22).run Tryd.prog w = .ok false w := by
    unfold isAgg
    rw [Sem.run_bind, run_underlying Tryd.underlying22 w]; simp
  have hg := row_get ms k (by omega)
  simp [Instr.index, asIntOf, run_underlying Tryd.underlying38, Sem.run_bind, part, h1, h2, hg, go_sem]
  omega
theorem heap_alloc3 (w : World) (A B C : Obj) : (((w.alloc A).alloc B).alloc C).heap[w.heap.size]? = some A ∧ (((w.alloc A).alloc B).alloc C).heap[w.heap.size + 1]? = some B ∧ (((w.alloc A).alloc B).alloc C).heap[w.heap.size + 1 + 1]? = some C := by
  have s1 : (w.alloc A).heap.size = w.heap.size + 1 := by simp
  have s2 : ((w.alloc A).alloc B).heap.size = w.heap.size + 1 + 1 := by simp
  refine ⟨?_, ?_, ?_⟩
  · rw [heap_alloc_old]
    · exact heap_alloc2_old _ _ _
    · omega
  · rw [heap_alloc_old]
    · exact heap_alloc2_new _ _ _
    · omega
  · rw [← s2]; exact heap_alloc_new _ _

end Go.Proofs.YtagpmgbmfoojiabDoor
