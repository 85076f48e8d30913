import Derived.Test.YtejchncdimcdbaaGreatDoorWNum
import Derived.Test.YtejchncdimcdbaaGreatDoorWUvar
namespace Go.Proofs.YtejchncdimcdbaaGreatDoor
open Go.RowKit
set_option linter.unusedVariables false
set_option maxRecDepth 100000
set_option linter.unusedSimpArgs false

set_option maxRecDepth 100000 in
set_option maxHeartbeats 400000 in
theorem wbytes_any (b : Nat) (v : Value) (bs : List Nat) (w : World) (hw : WrAt w b v bs) (hl : bs.length ≤ 140737488355328) :
    Calls Tryz.prog 147 #[.pointer (some ⟨b, 0, none⟩)] w fun e w' => e = .returned (.slice (some ⟨w.heap.size, 0, none⟩) bs.length bs.length) ∧ Kept [] w w' ∧
      w'.heap[w.heap.size]? = some (.cells (bs.map u8).toArray 5 (0, 0)) := by
  have hc0 := cell_of_one hw.at_
  have HR := hide (hw.rd hl)
  go_enter Tryz.func147, Tryz.ntmps147
  go_wp2_with (go_at_call 191; go_must (refine (cloned_any v bs _ (unhide HR)).mono ?_; rintro e w1 ⟨rfl, hk, hg⟩; have HK := hide hk; have HG := hide hg; clear hk hg))
  go_ret
  exact ⟨rfl, unhide HK, unhide HG⟩
end Go.Proofs.YtejchncdimcdbaaGreatDoor
