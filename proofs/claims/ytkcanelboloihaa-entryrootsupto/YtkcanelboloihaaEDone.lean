import Derived.Test.YtkcanelboloihaaRefTake3
namespace Go.Proofs.Ytkcanelboloihaa
open Go.RowKit Go.BigFrame
set_option linter.unusedVariables false
set_option linter.unusedSimpArgs false

set_option maxRecDepth 100000 in
set_option maxHeartbeats 1000000 in
theorem refDone_any (ao : Option Addr) (c : Nat) (p : List Nat) (i e : Nat) (w : World) :
    Calls Try.prog 55 #[rrV (.slice ao p.length c) i e] w fun r w' => r = .returned (.int .i64 (doneE p i e)) ∧ Kept [] w w' := by
  by_cases he : e = 0
  · subst he
    by_cases hi : i < p.length
    · have HV := hide (by simp [doneE, hi] : doneE p i 0 = 3)
      have hi' : (i : Int) < p.length := by omega
      go_enter Try.func55, Try.ntmps55
      go_wp2
      go_ret
      exact ⟨by rw [unhide HV]; rfl, (Kept.refl [] w).alloc _⟩
    · have HV := hide (by simp [doneE, hi] : doneE p i 0 = 0)
      have hi' : ¬ (i : Int) < p.length := by omega
      go_enter Try.func55, Try.ntmps55
      go_wp2
      go_ret
      exact ⟨by rw [unhide HV]; rfl, (Kept.refl [] w).alloc _⟩
  · have HV := hide (by simp [doneE, he] : doneE p i e = e)
    have he' : ((e : Int) == 0) = false := by simp; omega
    clear he
    go_enter Try.func55, Try.ntmps55
    go_wp2
    go_ret
    exact ⟨by rw [unhide HV]; rfl, (Kept.refl [] w).alloc _⟩
end Go.Proofs.Ytkcanelboloihaa
