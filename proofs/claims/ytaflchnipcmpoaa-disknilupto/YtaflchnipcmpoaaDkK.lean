import Derived.Test.YtaflchnipcmpoaaDkJ
namespace Go.Proofs.Ytaflchnipcmpoaa
open Go.RowKit Go.BigFrame Go.Maps Go.Sort
set_option linter.unusedVariables false
set_option linter.unusedSimpArgs false

/-- The cells of a call. -/
def opC (k : Int) (s : ByteArray) (pv fv : Value) (cr n : Int) (kv : Value) : Array Value := #[.int .i64 k, .string s, pv, fv, .int .i64 cr, .int .i64 n, kv]
def nilE (k : Int) : Int := if 1 ≤ k ∧ k ≤ 5 then 5 else 0

set_option maxRecDepth 100000 in
set_option maxHeartbeats 1000000 in
theorem call_nil (k : Int) (s : ByteArray) (pa fa ka : Option Addr) (pl pc fl fc kl kc : Nat) (cr n : Int) (w : World) :
    Calls Try.prog 14 #[.pointer none, .agg #[.int .i64 k, .string s, .slice pa pl pc, .slice fa fl fc, .int .i64 cr, .int .i64 n, .slice ka kl kc]] w fun e w' => e = .returned (.tuple #[.slice none 0 0, .int .i64 (nilE k)]) ∧ Kept [] w w' := by
  have hk0 := (Kept.refl [] w).alloc (.cells #[.int .i64 k, .string s, .slice pa pl pc, .slice fa fl fc, .int .i64 cr, .int .i64 n, .slice ka kl kc] 42 (0, 0))
  have hg := heap_alloc_new w (.cells #[.int .i64 k, .string s, .slice pa pl pc, .slice fa fl fc, .int .i64 cr, .int .i64 n, .slice ka kl kc] 42 (0, 0))
  obtain ⟨W, hW⟩ : ∃ W, w.alloc (.cells #[.int .i64 k, .string s, .slice pa pl pc, .slice fa fl fc, .int .i64 cr, .int .i64 n, .slice ka kl kc] 42 (0, 0)) = W := ⟨_, rfl⟩
  rw [hW] at hk0 hg
  have HW := hide hW
  have HK := hide hk0
  have c0 := cell_of_row _ _ 0 _ _ _ hg
  have c1 := cell_of_row _ _ 1 _ _ _ hg
  have c2 := cell_of_row _ _ 2 _ _ _ hg
  have c3 := cell_of_row _ _ 3 _ _ _ hg
  have c4 := cell_of_row _ _ 4 _ _ _ hg
  have c5 := cell_of_row _ _ 5 _ _ _ hg
  have c6 := cell_of_row _ _ 6 _ _ _ hg
  simp at c0 c1 c2 c3 c4 c5 c6
  clear hW hk0 hg
  by_cases h1 : k = 1
  · subst h1
    go_enter Try.func14, Try.ntmps14
    go_wp2_with (first | (rw [unhide HW]) | fail)
    refine Calls.mono (create_nil s _) ?_
    rintro e w1 ⟨rfl, rfl⟩
    go_wp2_with fail
    go_ret2
    exact ⟨rfl, unhide HK⟩
  have g1 : (k == 1) = false := by simpa using h1
  by_cases h2 : k = 2
  · subst h2
    go_enter Try.func14, Try.ntmps14
    go_wp2_with (first | (rw [unhide HW]) | fail)
    refine Calls.mono (append_nil s _ _) ?_
    rintro e w1 ⟨rfl, rfl⟩
    go_wp2_with fail
    go_ret2
    exact ⟨rfl, unhide HK⟩
  have g2 : (k == 2) = false := by simpa using h2
  by_cases h3 : k = 3
  · subst h3
    go_enter Try.func14, Try.ntmps14
    go_wp2_with (first | (rw [unhide HW]) | fail)
    refine Calls.mono (sync_nil s _) ?_
    rintro e w1 ⟨rfl, rfl⟩
    go_wp2_with fail
    go_ret2
    exact ⟨rfl, unhide HK⟩
  have g3 : (k == 3) = false := by simpa using h3
  by_cases h4 : k = 4
  · subst h4
    go_enter Try.func14, Try.ntmps14
    go_wp2_with (first | (rw [unhide HW]) | fail)
    refine Calls.mono (syncNames_nil _) ?_
    rintro e w1 ⟨rfl, rfl⟩
    go_wp2_with fail
    go_ret2
    exact ⟨rfl, unhide HK⟩
  have g4 : (k == 4) = false := by simpa using h4
  by_cases h5 : k = 5
  · subst h5
    go_enter Try.func14, Try.ntmps14
    go_wp2_with (first | (rw [unhide HW]) | fail)
    refine Calls.mono (read_nil s _) ?_
    rintro e w1 ⟨rfl, rfl⟩
    go_wp2_with fail
    go_ret2
    exact ⟨rfl, unhide HK⟩
  have g5 : (k == 5) = false := by simpa using h5
  have hE : nilE k = 0 := by unfold nilE; rw [if_neg (by omega)]
  rw [hE]
  clear h1 h2 h3 h4 h5 hE
  by_cases h6 : k = 6
  · subst h6
    go_enter Try.func14, Try.ntmps14
    go_wp2_with (first | (rw [unhide HW]) | fail)
    refine Calls.mono (plan_nil _ _ _) ?_
    rintro e w1 ⟨rfl, rfl⟩
    go_wp2_with fail
    go_ret2
    exact ⟨rfl, unhide HK⟩
  have g6 : (k == 6) = false := by simpa using h6
  by_cases h7 : k = 7
  · subst h7
    go_enter Try.func14, Try.ntmps14
    go_wp2_with (first | (rw [unhide HW]) | fail)
    refine Calls.mono (cut_nil _) ?_
    rintro e w1 ⟨rfl, rfl⟩
    go_wp2_with fail
    go_ret2
    exact ⟨rfl, unhide HK⟩
  have g7 : (k == 7) = false := by simpa using h7
  by_cases h8 : k = 8
  · subst h8
    go_enter Try.func14, Try.ntmps14
    go_wp2_with (first | (rw [unhide HW]) | fail)
    refine Calls.mono (restart_nil n _ _) ?_
    rintro e w1 ⟨rfl, k1⟩
    have HK1 := hide ((unhide HK).trans k1 (by simp))
    clear k1
    go_wp2_with fail
    go_ret2
    exact ⟨rfl, unhide HK1⟩
  have g8 : (k == 8) = false := by simpa using h8
  clear h6 h7 h8
  go_enter Try.func14, Try.ntmps14
  go_wp2_with (first | (rw [unhide HW]) | fail)
  go_ret2
  exact ⟨rfl, unhide HK⟩
end Go.Proofs.Ytaflchnipcmpoaa
