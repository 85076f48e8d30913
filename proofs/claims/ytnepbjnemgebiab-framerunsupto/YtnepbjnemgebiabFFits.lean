import Derived.Test.YtnepbjnemgebiabFCase
namespace Go.Proofs.Ytnepbjnemgebiab
open Go.RowKit Go.BigFrame
set_option linter.unusedVariables false
set_option linter.unusedSimpArgs false

set_option maxRecDepth 100000 in
theorem fits_any (v : Value) (p : List Nat) (w : World) (h : Rd w v p) :
    Calls Try.prog 10 #[v] w fun e w' => e = .returned (.bool (decide (0 < p.length ∧ p.length ≤ 65535))) ∧ w' = w := by
  obtain ⟨a1, n1, c1, rfl, hn1, hc1, ⟨hc2, hc3⟩, _⟩ := id h
  subst hn1
  clear h
  by_cases h0 : 0 < p.length
  · by_cases h1 : p.length ≤ 65535
    · rw [decide_eq_true ⟨h0, h1⟩]
      have h0' : (0 : Int) < p.length := by omega
      have h1' : (p.length : Int) ≤ 65535 := by omega
      go_enter Try.func10, Try.ntmps10
      go_wp2
      go_ret
      exact ⟨rfl, rfl⟩
    · rw [decide_eq_false (fun h => h1 h.2)]
      have h0' : (0 : Int) < p.length := by omega
      have h1' : ¬ (p.length : Int) ≤ 65535 := by omega
      go_enter Try.func10, Try.ntmps10
      go_wp2
      go_ret
      exact ⟨rfl, rfl⟩
  · rw [decide_eq_false (fun h => h0 h.1)]
    have h0' : ¬ (0 : Int) < p.length := by omega
    go_enter Try.func10, Try.ntmps10
    go_wp2
    go_ret
    exact ⟨rfl, rfl⟩

end Go.Proofs.Ytnepbjnemgebiab
