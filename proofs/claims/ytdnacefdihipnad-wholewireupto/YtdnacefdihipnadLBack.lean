import Derived.Test.YtdnacefdihipnadGen
namespace Go.Proofs.Ytdnacefdihipnad
open Go.RowKit
set_option linter.unusedVariables false
set_option linter.unusedSimpArgs false

theorem script_at {ops : List OpD} {k : Nat} {o : OpD} (h : ops[k]? = some o) : (scriptB ops).drop (scriptB (ops.take k)).length = layB o.k o.x o.p ++ scriptB (ops.drop (k + 1)) := by
  obtain ⟨hk, rfl⟩ := List.getElem?_eq_some_iff.1 h
  have e : scriptB ops = scriptB (ops.take k) ++ (layB ops[k].k ops[k].x ops[k].p ++ scriptB (ops.drop (k + 1))) := by
    conv => lhs; rw [← List.take_append_drop k ops, scriptB_append, List.drop_eq_getElem_cons hk]
    simp only [scriptB, List.flatMap_cons]
  conv => lhs; rw [e]
  simp
theorem layB_out {k : Int} {x : Nat} {p : List Nat} (h : k < 1 ∨ 7 < k) : layB k x p = [] := by
  have h1 : k ≠ 1 := by omega
  have h2 : k ≠ 2 := by omega
  have h3 : k ≠ 3 := by omega
  have h4 : k ≠ 4 := by omega
  have h5 : k ≠ 5 := by omega
  have h6 : k ≠ 6 := by omega
  have h7 : k ≠ 7 := by omega
  simp [layB, h1, h2, h3, h4, h5, h6, h7]
theorem layB_ge {k : Int} {x : Nat} {p : List Nat} (h : 6 ≤ k ∧ k ≤ 7) : p.length ≤ (layB k x p).length := by
  have : k = 6 ∨ k = 7 := by omega
  rcases this with rfl | rfl
  · exact Nat.le_refl _
  · have hb : layB 7 x p = uv p.length ++ p := rfl
    rw [hb]; simp
theorem kinds_four (k : Int) : (k < 1) ∨ (¬ k < 1 ∧ 7 < k) ∨ (¬ k < 1 ∧ ¬ 7 < k ∧ ¬ 6 ≤ k) ∨ (¬ k < 1 ∧ ¬ 7 < k ∧ 6 ≤ k) := by omega
theorem cutN_lt (k : Int) (x : Nat) (h : x < 18446744073709551616) : cutN k x < 18446744073709551616 := by
  unfold cutN; repeat (first | (split; omega) | omega)

end Go.Proofs.Ytdnacefdihipnad
