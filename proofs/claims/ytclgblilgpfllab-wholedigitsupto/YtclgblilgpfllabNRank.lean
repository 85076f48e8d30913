import Derived.Test.YtclgblilgpfllabNBit
namespace Go.Proofs.Ytclgblilgpfllab

theorem withB_bit (b i j : Nat) (hi : i ≤ 15) : (withB b (i : Int)).testBit j = (b.testBit j || decide (i = j)) := by
  unfold withB
  rw [Int.toNat_natCast]
  cases hb : b.testBit i with
  | true =>
    rw [if_neg (by simp)]
    by_cases h : i = j
    · subst h; simp [hb]
    · simp [h]
  | false => rw [if_pos ⟨by omega, by omega, rfl⟩, bit_add hb]
theorem outB_bit (b i j : Nat) (hi : i ≤ 15) : (outB b (i : Int)).testBit j = (b.testBit j && !decide (i = j)) := by
  unfold outB
  rw [Int.toNat_natCast]
  cases hb : b.testBit i with
  | false =>
    rw [if_neg (by simp)]
    by_cases h : i = j
    · subst h; simp [hb]
    · simp [h]
  | true => rw [if_pos ⟨by omega, by omega, rfl⟩, bit_sub hb]
theorem hasB_in (b i : Nat) (hi : i ≤ 15) : hasB b (i : Int) = b.testBit i := by
  unfold hasB
  rw [Int.toNat_natCast, decide_eq_true (by omega : (0 : Int) ≤ i), decide_eq_true (by omega : (i : Int) ≤ 15)]; simp
theorem hasB_out {b : Nat} {i : Int} (h : i < 0 ∨ 15 < i) : hasB b i = false := by
  unfold hasB
  rcases h with h | h
  · rw [decide_eq_false (by omega)]; simp
  · rw [decide_eq_false (by omega : ¬ i ≤ 15)]; simp
theorem withB_out {b : Nat} {i : Int} (h : i < 0 ∨ 15 < i) : withB b i = b := by unfold withB; rw [if_neg (by omega)]
theorem outB_out {b : Nat} {i : Int} (h : i < 0 ∨ 15 < i) : outB b i = b := by unfold outB; rw [if_neg (by omega)]
theorem has_with (b i : Nat) (hi : i ≤ 15) : hasB (withB b i) i = true := by rw [hasB_in _ _ hi, withB_bit b i i hi]; simp
theorem has_out (b i : Nat) (hi : i ≤ 15) : hasB (outB b i) i = false := by rw [hasB_in _ _ hi, outB_bit b i i hi]; simp
theorem out_with (b i : Nat) (hi : i ≤ 15) : outB (withB b i) i = outB b i := by
  apply Nat.eq_of_testBit_eq; intro j
  rw [outB_bit _ i j hi, withB_bit b i j hi, outB_bit b i j hi]
  by_cases h : i = j <;> simp [h]
theorem with_out (b i : Nat) (hi : i ≤ 15) : withB (outB b i) i = withB b i := by
  apply Nat.eq_of_testBit_eq; intro j
  rw [withB_bit _ i j hi, outB_bit b i j hi, withB_bit b i j hi]
  by_cases h : i = j <;> simp [h]
theorem with_with (b i : Nat) (hi : i ≤ 15) : withB (withB b i) i = withB b i := by
  apply Nat.eq_of_testBit_eq; intro j
  rw [withB_bit _ i j hi, withB_bit b i j hi]
  by_cases h : i = j <;> simp [h]
theorem out_out (b i : Nat) (hi : i ≤ 15) : outB (outB b i) i = outB b i := by
  apply Nat.eq_of_testBit_eq; intro j
  rw [outB_bit _ i j hi, outB_bit b i j hi]
  by_cases h : i = j <;> simp [h]
theorem cnt_with (b i : Nat) (hi : i ≤ 15) : ∀ k, cnt (withB b i) k = cnt (outB b i) k + if i < k then 1 else 0
  | 0 => by simp [cnt, setB]
  | k + 1 => by
    rw [cnt_succ, cnt_succ, cnt_with b i hi k, withB_bit b i k hi, outB_bit b i k hi]
    by_cases h : i = k
    · subst h; simp
    · cases hb : b.testBit k
      · simp [h]; split <;> split <;> omega
      · simp [h]; split <;> split <;> omega
theorem eq_with (b i : Nat) (hi : i ≤ 15) : (b = withB b i) ↔ b.testBit i = true := by
  constructor
  · intro h; rw [h, withB_bit b i i hi]; simp
  · intro h; unfold withB; rw [Int.toNat_natCast, if_neg (by rw [h]; simp)]
theorem eq_out (b i : Nat) (hi : i ≤ 15) : (b = outB b i) ↔ b.testBit i = false := by
  constructor
  · intro h; rw [h, outB_bit b i i hi]; simp
  · intro h; unfold outB; rw [Int.toNat_natCast, if_neg (by rw [h]; simp)]
theorem rank_step (b : Nat) (j : Int) : rankB b (j + 1) = rankB b j + if hasB b j then 1 else 0 := by
  unfold rankB
  by_cases h0 : j < 0
  · rw [hasB_out (Or.inl h0), if_pos h0]
    by_cases h1 : j + 1 < 0
    · rw [if_pos h1]; simp
    · rw [if_neg h1, if_pos (by omega), show (j + 1).toNat = 0 by omega]; simp [cnt, setB]
  · rw [if_neg (by omega), if_neg h0]
    obtain ⟨k, rfl⟩ : ∃ k : Nat, j = k := ⟨j.toNat, by omega⟩
    by_cases h2 : (k : Int) ≤ 15
    · rw [if_pos h2, hasB_in b k (by omega), Int.toNat_natCast, show (if (k : Int) + 1 ≤ 15 then ((k : Int) + 1).toNat else 16) = k + 1 by split <;> omega, cnt_succ]
    · rw [if_neg h2, if_neg (by omega), hasB_out (Or.inr (by omega))]; simp
theorem rankB_end (b : Nat) : rankB b 19 = cnt b 16 := by unfold rankB; rw [if_neg (by decide), if_neg (by decide)]
theorem rankB_le (b : Nat) (j : Int) : rankB b j ≤ 16 := by
  unfold rankB
  split
  · omega
  · split
    · have := cnt_le b j.toNat; omega
    · exact cnt_le b 16
end Go.Proofs.Ytclgblilgpfllab
