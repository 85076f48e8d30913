import Derived.Test.YtclgblilgpfllabRdSub
import Derived.Test.YtclgblilgpfllabQKeep
import Derived.Test.YtclgblilgpfllabSSum
namespace Go.Proofs.Ytclgblilgpfllab
open Go.RowKit Go.BigFrame
set_option linter.unusedVariables false
set_option linter.unusedSimpArgs false

/-- The first k bytes of a digest, and noughts behind them. -/
def cutL (k : Nat) (d : List Nat) : List Nat := d.take k ++ List.replicate (32 - k) 0
theorem cutL_len (k : Nat) (d : List Nat) (hk : k ≤ 32) (hd : d.length = 32) : (cutL k d).length = 32 := by simp [cutL, hd]; omega
theorem cutL_byte (k : Nat) (d : List Nat) (hb : ∀ x ∈ d, x < 256) : ∀ x ∈ cutL k d, x < 256 := by
  intro x hx; simp only [cutL, List.mem_append, List.mem_replicate] at hx
  rcases hx with h | ⟨_, rfl⟩
  · exact hb x (List.mem_of_mem_take h)
  · decide
theorem Try.size_dig : (Try.prog.info? 29).map (·.size) = some 32 := by kernel_rfl

def widthB (z : Int) : Bool := decide (1 ≤ z ∧ z ≤ 32)

theorem eqItems_dig (P : Program) (w : World) (he : P.plainKey 5 = true) (hu : P.underlying 5 = some (.int .u8)) (d : Nat) (a b : List Nat) (n : Nat) (ha : a.length = n) (hb : b.length = n) :
    ∀ k s, s + k = n → (Op.eqItems (d + 1) 5 1 (brow a) (brow b) (List.range' s k)).run P w = .ok (decide (a.drop s = b.drop s)) w
  | 0, s, h => by
    have : a.drop s = b.drop s := by rw [List.drop_eq_nil_of_le (by omega), List.drop_eq_nil_of_le (by omega)]
    simp [Op.eqItems, this]
  | k + 1, s, h => by
    rw [List.range'_succ]
    simp only [Op.eqItems, Sem.run_bind, Nat.mul_one]
    rw [run_part_plain w he (brow_get a s (by omega)), Result.andThen_ok, run_part_plain w he (brow_get b s (by omega)), Result.andThen_ok]
    simp only [u8]
    rw [run_equalIn_int w d 5 _ _ _ _ hu, Result.andThen_ok]
    have hdd : decide (a.drop s = b.drop s) = (decide (a.getD s 0 = b.getD s 0) && decide (a.drop (s + 1) = b.drop (s + 1))) := by
      rw [List.drop_eq_getElem_cons (show s < a.length by omega), List.drop_eq_getElem_cons (show s < b.length by omega), List.getD_eq_getElem?_getD, List.getD_eq_getElem?_getD, List.getElem?_eq_getElem (show s < a.length by omega), List.getElem?_eq_getElem (show s < b.length by omega)]
      simp only [List.cons.injEq, Bool.decide_and, Option.getD_some]
    rw [hdd]
    by_cases e : a.getD s 0 = b.getD s 0
    · rw [e]
      simp only [beq_self_eq_true, Bool.not_true, Bool.false_eq_true, if_false]
      rw [eqItems_dig P w he hu d a b n ha hb k (s + 1) (by omega)]
      simp
    · have : ((a.getD s 0 : Int) == (b.getD s 0 : Int)) = false := by rw [beq_eq_false_iff_ne]; omega
      rw [this, decide_eq_false e]
      simp only [Bool.false_and, Bool.not_false, if_true, Sem.run_pure]
theorem dig_eq (w : World) (a b : List Nat) (ha : a.length = 32) (hb : b.length = 32) : (Op.equalIn 10000 29 (.agg (brow a)) (.agg (brow b))).run Try.prog w = .ok (decide (a = b)) w := by
  obtain ⟨i, hi, _⟩ := Option.map_eq_some_iff.1 Try.info5
  rw [run_equalIn_array w 9999 _ _ Try.underlying29 hi, List.range_eq_range', show Try.prog.cellsOf 5 = 1 from by kernel_rfl]
  exact eqItems_dig Try.prog w (by unfold Program.plainKey; rw [Try.underlying5]) Try.underlying5 9998 a b 32 ha hb 32 0 rfl

/-- Is d a digest of the width z? -/
def formB (z : Int) (d : List Nat) : Bool := widthB z && decide (cutL z.toNat d = d)

end Go.Proofs.Ytclgblilgpfllab
