import Derived.Test.YtbbjbpjpejekgaaWNum
import Derived.Test.YtbbjbpjpejekgaaWUvar
namespace Go.Proofs.Ytbbjbpjpejekgaa
open Go.RowKit
set_option linter.unusedVariables false
set_option maxRecDepth 100000
set_option linter.unusedSimpArgs false

set_option maxRecDepth 100000 in
set_option maxHeartbeats 400000 in
theorem wbytes_any (b : Nat) (v : Value) (bs : List Nat) (w : World) (hw : WrAt w b v bs) (hl : bs.length ≤ 140737488355328) :
    Calls Try.prog 10 #[.pointer (some ⟨b, 0, none⟩)] w fun e w' => e = .returned (.slice (some ⟨w.heap.size, 0, none⟩) bs.length bs.length) ∧ Kept [] w w' ∧
      w'.heap[w.heap.size]? = some (.cells (bs.map u8).toArray 5 (0, 0)) := by
  have hc0 := cell_of_one hw.at_
  have HR := hide (hw.rd hl)
  go_enter Try.func10, Try.ntmps10
  go_wp2_with (go_at_call 31; go_must (refine (cloned_any v bs _ (unhide HR)).mono ?_; rintro e w1 ⟨rfl, hk, hg⟩; have HK := hide hk; have HG := hide hg; clear hk hg))
  go_ret
  exact ⟨rfl, unhide HK, unhide HG⟩

set_option maxRecDepth 100000 in
theorem wlen_any (b : Nat) (v : Value) (bs : List Nat) (w : World) (hw : WrAt w b v bs) :
    Calls Try.prog 11 #[.pointer (some ⟨b, 0, none⟩)] w fun e w' => e = .returned (.int .i64 bs.length) ∧ w' = w := by
  obtain ⟨ao, cap, rfl⟩ : ∃ ao cap, v = .slice ao bs.length cap := by
    rcases hw.own.2 with ⟨rfl, h0⟩ | ⟨g, cap, cur, rfl, _⟩
    · exact ⟨none, 0, by rw [h0]⟩
    · exact ⟨_, _, rfl⟩
  have hc0 := cell_of_one hw.at_
  clear hw
  go_enter Try.func11, Try.ntmps11
  go_wp2
  go_ret
  exact ⟨rfl, rfl⟩

set_option maxRecDepth 100000 in
theorem wu16_any (b : Nat) (v : Value) (bs : List Nat) (x : Nat) (w : World) (hw : WrAt w b v bs) (hx : x < 65536) (hl : bs.length + 8 ≤ 140737488355328) :
    Calls Try.prog 8 #[.pointer (some ⟨b, 0, none⟩), .int .u16 x] w fun e w' => e = .returned (.tuple #[]) ∧ ∃ v', WrAt w' b v' (bs ++ wide x 2) ∧ Grew b v v' w w' := by
  have HW := hide hw
  clear hw
  go_enter Try.func8, Try.ntmps8
  go_wp2_with (go_at_call 30; go_must (refine (wnumber_any b v bs x 2 _ (unhide HW) (by omega) hl).mono ?_; rintro e w1 ⟨rfl, hk⟩; have HK := hide hk; clear hk))
  go_end0
  exact ⟨rfl, unhide HK⟩
end Go.Proofs.Ytbbjbpjpejekgaa
