import Derived.Test.YtialndpejechbaaQMore
namespace Go.Proofs.Ytialndpejechbaa
open Go.RowKit Go.MuLone Go.BigFrame
set_option linter.unusedVariables false
set_option linter.unusedSimpArgs false

set_option maxRecDepth 100000 in
set_option maxHeartbeats 1000000 in
theorem newI_bad (pl : Int) (w : World) (h : ¬ (1 ≤ pl ∧ pl ≤ 64)) :
    Calls Try.prog 9 #[.int .i64 pl] w fun e w' => e = .returned (.tuple #[.pointer none, .int .i64 1]) ∧ Kept [] w w' := by
  by_cases h1 : pl < 1
  · go_enter Try.func9, Try.ntmps9
    go_wp2
    exact bodyPost_ret (results_tmp2 rfl _ _ _) rfl ⟨rfl, Kept.refl _ _⟩
  · have h2 : 64 < pl := by omega
    go_enter Try.func9, Try.ntmps9
    go_wp2
    exact bodyPost_ret (results_tmp2 rfl _ _ _) rfl ⟨rfl, Kept.refl _ _⟩

set_option maxRecDepth 100000 in
set_option maxHeartbeats 1000000 in
theorem newI_any (pl : Int) (w : World) (h : 1 ≤ pl ∧ pl ≤ 64) :
    Calls Try.prog 9 #[.int .i64 pl] w fun e w' => ∃ q, e = .returned (.tuple #[.pointer (some ⟨q, 0, none⟩), .int .i64 0]) ∧ w.heap.size ≤ q ∧ QAt 70 3 w' q pl (.slice none 0 0) [] false ∧ Kept [] w w' := by
  obtain ⟨h1, h2⟩ := h
  have h1' : ¬ pl < 1 := by omega
  have h2' : ¬ 64 < pl := by omega
  go_enter Try.func9, Try.ntmps9
  go_wp2
  exact bodyPost_ret (results_tmp2 rfl _ _ _) rfl ⟨_, rfl, Nat.le_refl _, ⟨heap_alloc_new _ _, Qr.nil _ _⟩, (Kept.refl [] w).alloc _⟩

end Go.Proofs.Ytialndpejechbaa
