/-
  mtree: what its parts and peaks tell; numbers alone. Nothing of a program but nodeB and sumD.
-/
import Derived.Test.YtecadmldnjlibaaDoorDNode
import Derived.Test.YtecadmldnjlibaaDoorLSums3
namespace Go.Proofs.YtecadmldnjlibaaDoor
set_option linter.unusedVariables false
set_option linter.unusedSimpArgs false

/-- The digest of a node over two digests. -/
def nodT (z : Int) (l r : List Nat) : List Nat := sumD z (nodeB z l r)
/-- The digest of 2^h leaves. -/
def perT (z : Int) : Nat → List (List Nat) → List Nat
  | 0, l => l.getD 0 []
  | h + 1, l => nodT z (perT z h (l.take (2 ^ h))) (perT z h (l.drop (2 ^ h)))
/-- The greatest power of two below n. -/
def belT (n : Nat) : Nat := 2 ^ Nat.log2 (n - 1)
theorem belT_lt {n : Nat} (h : 2 ≤ n) : 1 ≤ belT n ∧ belT n < n ∧ n ≤ 2 * belT n := by
  unfold belT
  have h1 : n - 1 ≠ 0 := by omega
  have h2 := (Nat.log2_eq_iff h1 (k := Nat.log2 (n - 1))).1 rfl
  have h3 : 1 ≤ 2 ^ Nat.log2 (n - 1) := Nat.one_le_two_pow
  have h4 : 2 ^ (Nat.log2 (n - 1) + 1) = 2 * 2 ^ Nat.log2 (n - 1) := by rw [Nat.pow_succ]; omega
  omega
theorem belT_pow (h : Nat) : belT (2 ^ (h + 1)) = 2 ^ h := by
  unfold belT
  have h1 : 1 ≤ 2 ^ h := Nat.one_le_two_pow
  have h2 : 2 ^ (h + 1) = 2 * 2 ^ h := by rw [Nat.pow_succ]; omega
  have h3 : Nat.log2 (2 ^ (h + 1) - 1) = h := (Nat.log2_eq_iff (by omega)).2 ⟨by omega, by omega⟩
  rw [h3]
/-- The digest of a list of leaves, by its recursion; f bounds the length. -/
def logF (z : Int) (no : List Nat) : Nat → List (List Nat) → List Nat
  | 0, _ => no
  | f + 1, l => if l.length = 0 then no else if l.length = 1 then l.getD 0 [] else nodT z (logF z no f (l.take (belT l.length))) (logF z no f (l.drop (belT l.length)))
theorem logF_fuel (z : Int) (no : List Nat) : ∀ (f g : Nat) (l : List (List Nat)), l.length ≤ f → l.length ≤ g → logF z no f l = logF z no g l
  | 0, 0, l, _, _ => rfl
  | 0, g + 1, l, h, _ => by rw [logF, logF, if_pos (by omega)]
  | f + 1, 0, l, _, h => by rw [logF, logF, if_pos (by omega)]
  | f + 1, g + 1, l, h1, h2 => by
    rw [logF, logF]
    by_cases h0 : l.length = 0
    · rw [if_pos h0, if_pos h0]
    · rw [if_neg h0, if_neg h0]
      by_cases h3 : l.length = 1
      · rw [if_pos h3, if_pos h3]
      · rw [if_neg h3, if_neg h3]
        have h9 := belT_lt (n := l.length) (by omega)
        rw [logF_fuel z no f g _ (by rw [List.length_take]; omega) (by rw [List.length_take]; omega), logF_fuel z no f g _ (by rw [List.length_drop]; omega) (by rw [List.length_drop]; omega)]
def logT (z : Int) (no : List Nat) (l : List (List Nat)) : List Nat := logF z no l.length l
theorem logT_nil (z : Int) (no : List Nat) : logT z no [] = no := rfl
theorem logT_one (z : Int) (no x : List Nat) : logT z no [x] = x := rfl
theorem logT_cut (z : Int) (no : List Nat) (l : List (List Nat)) (h : 2 ≤ l.length) : logT z no l = nodT z (logT z no (l.take (belT l.length))) (logT z no (l.drop (belT l.length))) := by
  unfold logT
  obtain ⟨f, hf⟩ : ∃ f, l.length = f + 1 := ⟨l.length - 1, by omega⟩
  have h9 := belT_lt h
  rw [hf, logF, if_neg (by omega), if_neg (by omega), hf]
  rw [hf] at h9
  rw [logF_fuel z no f _ (l.take (belT (f + 1))) (by rw [List.length_take]; omega) (Nat.le_refl _), logF_fuel z no f _ (l.drop (belT (f + 1))) (by rw [List.length_drop]; omega) (Nat.le_refl _)]
theorem logT_per (z : Int) (no : List Nat) : ∀ (h : Nat) (l : List (List Nat)), l.length = 2 ^ h → logT z no l = perT z h l
  | 0, l, hl => by
    obtain ⟨x, rfl⟩ : ∃ x, l = [x] := by
      cases l with
      | nil => simp at hl
      | cons x r => cases r with
        | nil => exact ⟨x, rfl⟩
        | cons y r => simp at hl
    rfl
  | h + 1, l, hl => by
    have h1 : 1 ≤ 2 ^ h := Nat.one_le_two_pow
    have h2 : 2 ^ (h + 1) = 2 * 2 ^ h := by rw [Nat.pow_succ]; omega
    rw [logT_cut z no l (by omega), hl, belT_pow, perT, logT_per z no h _ (by rw [List.length_take]; omega), logT_per z no h _ (by rw [List.length_drop]; omega)]

/-- Heights from the last peak on: rising, from b on. -/
def Inc : Nat → List Nat → Prop
  | _, [] => True
  | b, h :: S => b ≤ h ∧ Inc (h + 1) S
def sumP (S : List Nat) : Nat := (S.map (2 ^ ·)).sum
theorem sumP_cons (h : Nat) (S : List Nat) : sumP (h :: S) = 2 ^ h + sumP S := by simp [sumP]
theorem Inc.weak : ∀ {S : List Nat} {b c : Nat}, b ≤ c → Inc c S → Inc b S
  | [], _, _, _, _ => trivial
  | h :: S, b, c, hb, hi => ⟨Nat.le_trans hb hi.1, hi.2⟩
theorem Inc.dvd : ∀ {S : List Nat} {b : Nat}, Inc b S → 2 ^ b ∣ sumP S
  | [], b, _ => by simp [sumP]
  | h :: S, b, hi => by
    rw [sumP_cons]
    exact Nat.dvd_add (Nat.pow_dvd_pow 2 hi.1) (Nat.dvd_trans (Nat.pow_dvd_pow 2 (by have := hi.1; omega)) hi.2.dvd)
/-- Where the sum's part is odd, the last peak has just that height. -/
theorem inc_odd {S : List Nat} {b m : Nat} (hi : Inc b S) (hs : sumP S = 2 ^ b * m) (hm : m % 2 = 1) : ∃ S', S = b :: S' ∧ Inc (b + 1) S' ∧ sumP S' = 2 ^ (b + 1) * (m / 2) := by
  have hp : 0 < 2 ^ b := Nat.pos_of_ne_zero (by simp)
  have hp2 : 2 ^ (b + 1) = 2 ^ b * 2 := Nat.pow_succ ..
  cases S with
  | nil =>
    have h0 : 2 ^ b * m = 0 := by rw [← hs]; simp [sumP]
    have : m = 0 := by rcases Nat.mul_eq_zero.1 h0 with h | h <;> omega
    omega
  | cons h S =>
    rw [sumP_cons] at hs
    by_cases he : h = b
    · subst he
      refine ⟨S, rfl, hi.2, ?_⟩
      have h2 : m = 2 * (m / 2) + 1 := by omega
      have h3 : 2 ^ h * m = 2 ^ h + 2 ^ (h + 1) * (m / 2) := by
        rw [hp2, Nat.mul_assoc]
        conv => lhs; rw [h2, Nat.mul_add, Nat.mul_one]
        omega
      omega
    · exfalso
      have h1 : Inc (b + 1) (h :: S) := ⟨by have := hi.1; omega, hi.2⟩
      have h2 := h1.dvd
      rw [sumP_cons, hs, hp2] at h2
      have h3 := Nat.dvd_of_mul_dvd_mul_left hp h2
      omega
/-- Where it is even, all peaks stand higher. -/
theorem inc_even {S : List Nat} {b m : Nat} (hi : Inc b S) (hs : sumP S = 2 ^ b * m) (hm : m % 2 = 0) : Inc (b + 1) S := by
  have hp : 0 < 2 ^ b := Nat.pos_of_ne_zero (by simp)
  have hp2 : 2 ^ (b + 1) = 2 ^ b * 2 := Nat.pow_succ ..
  cases S with
  | nil => trivial
  | cons h S =>
    by_cases he : h = b
    · subst he
      exfalso
      have h2 := hi.2.dvd
      obtain ⟨q, hq⟩ := h2
      rw [sumP_cons, hq, hp2, Nat.mul_assoc] at hs
      have h3 : 2 ^ h * (1 + 2 * q) = 2 ^ h * m := by rw [Nat.mul_add, Nat.mul_one]; exact hs
      have h4 := Nat.eq_of_mul_eq_mul_left hp h3
      omega
    · exact ⟨by have := hi.1; omega, hi.2⟩
/-- The bits of the sum are the heights. -/
theorem inc_bit : ∀ {S : List Nat} {b h : Nat}, Inc b S → ((sumP S).testBit h = true ↔ h ∈ S)
  | [], b, h, _ => by simp [sumP]
  | x :: S, b, h, hi => by
    rw [sumP_cons]
    obtain ⟨q, hq⟩ := hi.2.dvd
    rw [hq, Nat.pow_succ, Nat.mul_assoc]
    have ih := inc_bit (h := h) hi.2
    rw [hq, Nat.pow_succ, Nat.mul_assoc] at ih
    rw [List.mem_cons]
    have key : (2 ^ x + 2 ^ x * (2 * q)).testBit h = (decide (h = x) || (2 ^ x * (2 * q)).testBit h) := by
      have e : 2 ^ x + 2 ^ x * (2 * q) = 2 ^ x * (2 * q + 1) := by rw [Nat.mul_add, Nat.mul_one]; omega
      rw [e, Nat.testBit_two_pow_mul, Nat.testBit_two_pow_mul]
      by_cases h1 : x ≤ h
      · rw [decide_eq_true h1]
        by_cases h2 : h = x
        · subst h2; simp
        · obtain ⟨d, hd⟩ : ∃ d, h - x = d + 1 := ⟨h - x - 1, by omega⟩
          rw [hd, decide_eq_false h2, Nat.testBit_succ, Nat.testBit_succ]
          have e1 : (2 * q + 1) / 2 = 2 * q / 2 := by omega
          rw [e1]; simp
      · rw [decide_eq_false h1, decide_eq_false (by omega)]; rfl
    rw [key, Bool.or_eq_true, decide_eq_true_eq, ih]
end Go.Proofs.YtecadmldnjlibaaDoor
