import Derived.Test.YtbbjbpjpejekgaaDoorWNum
import Derived.Test.YtbbjbpjpejekgaaDoorWUvar
namespace Go.Proofs.YtbbjbpjpejekgaaDoor
open Go.RowKit
set_option linter.unusedVariables false
set_option maxRecDepth 100000
set_option linter.unusedSimpArgs false

set_option maxRecDepth 100000 in
set_option maxHeartbeats 400000 in
theorem wbytes_any (b : Nat) (v : Value) (bs : List Nat) (w : World) (hw : WrAt w b v bs) (hl : bs.length ≤ 140737488355328) :
    Calls Tryd.prog 67 #[.pointer (some ⟨b, 0, none⟩)] w fun e w' => e = .returned (.slice (some ⟨w.heap.size, 0, none⟩) bs.length bs.length) ∧ Kept [] w w' ∧
      w'.heap[w.heap.size]? = some (.cells (bs.map u8).toArray 5 (0, 0)) := by
  have hc0 := cell_of_one hw.at_
  have HR := hide (hw.rd hl)
  go_enter Tryd.func67, Tryd.ntmps67
  go_wp2_with (go_at_call 85; go_must (refine (cloned_any v bs _ (unhide HR)).mono ?_; rintro e w1 ⟨rfl, hk, hg⟩; have HK := hide hk; have HG := hide hg; clear hk hg))
  go_ret
  exact ⟨rfl, unhide HK, unhide HG⟩

set_option maxRecDepth 100000 in
theorem wu16_any (b : Nat) (v : Value) (bs : List Nat) (x : Nat) (w : World) (hw : WrAt w b v bs) (hx : x < 65536) (hl : bs.length + 8 ≤ 140737488355328) :
    Calls Tryd.prog 78 #[.pointer (some ⟨b, 0, none⟩), .int .u16 x] w fun e w' => e = .returned (.tuple #[]) ∧ ∃ v', WrAt w' b v' (bs ++ wide x 2) ∧ Grew b v v' w w' := by
  have HW := hide hw
  clear hw
  go_enter Tryd.func78, Tryd.ntmps78
  go_wp2_with (go_at_call 84; go_must (refine (wnumber_any b v bs x 2 _ (unhide HW) (by omega) hl).mono ?_; rintro e w1 ⟨rfl, hk⟩; have HK := hide hk; clear hk))
  go_end0
  exact ⟨rfl, unhide HK⟩
end Go.Proofs.YtbbjbpjpejekgaaDoor
