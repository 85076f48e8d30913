import Derived.Test.YtbljofojeagdkaaDoorMP6
namespace Go.Proofs.YtbljofojeagdkaaDoor
open Go.RowKit Go.BigFrame
set_option linter.unusedVariables false
set_option linter.unusedSimpArgs false

theorem sinL_le : ∀ (c m n : Nat) (wh : Bool), sinL c m n wh ≤ c + 1
  | 0, _, _, wh => by unfold sinL; split <;> omega
  | c + 1, m, n, wh => by
    unfold sinL
    have h1 := sinL_le c m (belT n) wh
    have h2 := sinL_le c (m - belT n) (n - belT n) false
    split
    · split <;> omega
    · split <;> omega
theorem sinL_end (c m : Nat) (wh : Bool) : sinL c m m wh = if wh then 0 else 1 := by
  cases c with
  | zero => rfl
  | succ c => unfold sinL; rw [if_pos rfl]

theorem smL_len {m n : Nat} (hm : m ≤ n) (hn : n < 18446744073709551616) : (smL m n).length = if m = 0 then 0 else sinL 64 m n true := by
  unfold smL
  by_cases h0 : m = 0
  · rw [if_pos (Or.inl h0), if_pos h0]; rfl
  · rw [if_neg h0]
    by_cases h1 : m = n
    · rw [if_pos (Or.inr h1), h1, sinL_end]; rfl
    · rw [if_neg (by omega), seam_sin m 64 0 n true (by omega) hm (by omega)]; simp
theorem cntA_eq {i m n : Nat} (hi : i < n) (hm : m ≤ n) (hn : n < 18446744073709551616) : cntA i m n = (stL 64 i n : Int) := by
  unfold cntA
  rw [if_neg (by omega), path_all hi (by omega), levs_steps 64 i n hi (by omega)]

end Go.Proofs.YtbljofojeagdkaaDoor
