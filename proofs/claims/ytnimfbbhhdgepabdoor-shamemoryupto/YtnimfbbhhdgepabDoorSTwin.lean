import Derived.Test.YtnimfbbhhdgepabDoorRowz
import Derived.Test.YtnimfbbhhdgepabDoorCloned
namespace Go.Proofs.YtnimfbbhhdgepabDoor
open Go.RowKit
set_option linter.unusedVariables false
set_option linter.unusedSimpArgs false

set_option maxHeartbeats 400000 in
theorem ltwin_any (v : Value) (bs : List Nat) (w : World) (h : Rd w v bs) :
    Calls Tryd.prog 13 #[v] w fun e w' => e = .returned (.slice (some ⟨w.heap.size, 0, none⟩) bs.length bs.length) ∧ Kept [] w w' ∧
      w'.heap[w.heap.size]? = some (.cells (bs.map u8).toArray 5 (0, 0)) := by
  have hk : Rd (w.alloc (.cells (zeros bs.length).toArray 5)) v bs := h.kept ((Kept.refl [] w).alloc _) (by simp)
  obtain ⟨ao, len, cap, rfl, rfl, h2, ⟨h3, h3'⟩, h4, h5, h6⟩ := h
  have hmk := run_make_row' (P := Tryd.prog) 22 5 (.int .u8 0) 1 Tryd.underlying22 Tryd.info5 rfl .i64 .i64 bs.length (by omega) (by omega)
  simp only [madeZeros] at hmk
  obtain ⟨w2, hrun, hg, hw⟩ := run_copy_head 22 22 3 5 Tryd.underlying22 Tryd.size5 _ w.heap.size bs.length bs.length cap ao bs (zeros bs.length) 5 (heap_alloc_new w _) hk (Nat.le_refl _) (by simp [zeros])
  have HG := hide hg
  have HW := hide hw
  clear hg hw hk h6
  go_enter Tryd.func13, Tryd.ntmps13
  go_wp2
  go_ret
  refine ⟨rfl, ((Kept.refl [] w).alloc _).trans (unhide HW) (by simp), ?_⟩
  rw [unhide HG]; simp [zeros]
end Go.Proofs.YtnimfbbhhdgepabDoor
