import Derived.Test.YtbbjbpjpejekgaaAApp
namespace Go.Proofs.Ytbbjbpjpejekgaa
open Go.RowKit
set_option linter.unusedVariables false
set_option linter.unusedSimpArgs false

/-- The byte that 'mark' answers. -/
def markN (r i j : Nat) : Nat := if r = 0 then (101 * i + 59 * j + 17) % 256 else ((i + 1) * (j + 3) * 29 + i * 7 + j / 5 + 3) % 256

set_option maxRecDepth 100000 in
set_option maxHeartbeats 1000000 in
theorem mark_any (r i j : Nat) (w : World) (hi : i ≤ 4194304) (hj : j ≤ 8388608) (hr : r < 2) :
    Calls Try.prog 46 #[.int .i64 r, .int .i64 i, .int .i64 j] w fun e w' => e = .returned (.int .u8 (markN r i j)) ∧ w' = w := by
  by_cases h0 : r = 0
  · subst h0
    go_enter Try.func46, Try.ntmps46
    go_wp2
    go_ret
    exact ⟨by simp [markN], rfl⟩
  · have h1 : r = 1 := by omega
    subst h1
    have hb : (i + 1) * (j + 3) ≤ 4194305 * 8388611 := Nat.mul_le_mul (by omega) (by omega)
    obtain ⟨q, hq⟩ : ∃ q, (i + 1) * (j + 3) = q := ⟨_, rfl⟩
    have hq2 : ((i : Int) + 1) * ((j : Int) + 3) = q := by rw [← hq]; simp
    have Hv := hide (by unfold markN; rw [if_neg (by omega), hq] : markN 1 i j = (q * 29 + i * 7 + j / 5 + 3) % 256)
    rw [hq] at hb
    clear hq h0
    go_enter Try.func46, Try.ntmps46
    go_wp2
    go_ret
    exact ⟨by rw [unhide Hv]; simp, rfl⟩
end Go.Proofs.Ytbbjbpjpejekgaa
