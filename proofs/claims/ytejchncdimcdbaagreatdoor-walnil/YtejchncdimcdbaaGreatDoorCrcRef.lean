/-
  Plain reckoning: the check sum with its bits the other way round. No program, no model.
-/
import Derived.Test.YtejchncdimcdbaaGreatDoorCrc
namespace Go.Proofs.YtejchncdimcdbaaGreatDoor
set_option linter.unusedVariables false

theorem pax (i : Nat) {b : Nat} (h : b < 2 ^ i) (a : Nat) : 2 ^ i * a + b = 2 ^ i * a ^^^ b := by
  apply Nat.eq_of_testBit_eq
  intro j
  rw [Nat.testBit_two_pow_mul_add a h, Nat.testBit_xor, Nat.testBit_two_pow_mul]
  by_cases hj : j < i
  · simp [hj, show ¬ i ≤ j by omega]
  · have : b.testBit j = false := Nat.testBit_lt_two_pow (Nat.lt_of_lt_of_le h (Nat.pow_le_pow_right (by omega) (show i ≤ j by omega)))
    simp [hj, this, show i ≤ j by omega]

/-- The n lowest bits of c the other way round. -/
def rv : Nat → Nat → Nat
  | 0, _ => 0
  | n + 1, c => rv n c * 2 + c / 2 ^ n % 2
theorem rv_bit (n c : Nat) : ∀ i, (rv n c).testBit i = (decide (i < n) && c.testBit (n - 1 - i)) := by
  induction n with
  | zero => intro i; simp [rv]
  | succ n ih =>
    intro i
    cases i with
    | zero => simp [rv, Nat.testBit, Nat.shiftRight_eq_div_pow, Nat.and_comm 1]
    | succ i =>
      rw [Nat.testBit_succ, show rv (n + 1) c / 2 = rv n c by simp only [rv]; omega, ih i]
      by_cases hi : i < n
      · simp only [hi, decide_true, Bool.true_and, show i + 1 < n + 1 by omega]; congr 1; omega
      · simp [hi, show ¬ i + 1 < n + 1 by omega]
theorem rv_lt (n c : Nat) : rv n c < 2 ^ n := by
  induction n with
  | zero => simp [rv]
  | succ n ih => simp only [rv, Nat.pow_succ]; omega
theorem high {c i : Nat} (h : c < 4294967296) (hi : 32 ≤ i) : c.testBit i = false :=
  Nat.testBit_lt_two_pow (Nat.lt_of_lt_of_le h (show 2 ^ 32 ≤ 2 ^ i from Nat.pow_le_pow_right (by omega) hi))
theorem rv_rv {c : Nat} (h : c < 4294967296) : rv 32 (rv 32 c) = c := by
  apply Nat.eq_of_testBit_eq
  intro i
  rw [rv_bit, rv_bit]
  by_cases hi : i < 32
  · simp only [hi, decide_true, Bool.true_and, show 32 - 1 - i < 32 by omega]; congr 1; omega
  · simp [hi, high h (show 32 ≤ i by omega)]
theorem rv_xor (n a b : Nat) : rv n (a ^^^ b) = rv n a ^^^ rv n b := by
  apply Nat.eq_of_testBit_eq
  intro i
  rw [Nat.testBit_xor, rv_bit, rv_bit, rv_bit, Nat.testBit_xor]
  cases decide (i < n) <;> simp

/-- Doubled, modulo the polynomial: 33 bits, of which the highest falls out. -/
def dbl (r : Nat) : Nat := r * 2 ^^^ r / 2147483648 * 4812730177
theorem dbl_small {r : Nat} (h : r < 2147483648) : dbl r = r * 2 := by unfold dbl; rw [show r / 2147483648 = 0 by omega]; simp
theorem dbl_big {r : Nat} (h : 2147483648 ≤ r) (h2 : r < 4294967296) : dbl r = (r * 2 % 4294967296) ^^^ 517762881 := by
  unfold dbl
  rw [show r / 2147483648 = 1 by omega]
  obtain ⟨k, hk⟩ : ∃ k, r = 2147483648 + k := ⟨r - 2147483648, by omega⟩
  have e1 : r * 2 = 4294967296 ^^^ k * 2 := by
    have := pax 32 (b := k * 2) (by omega) 1
    rw [hk, show (4294967296 : Nat) = 2 ^ 32 * 1 by decide, ← this]; omega
  have e2 : r * 2 % 4294967296 = k * 2 := by omega
  rw [e2, e1, show 1 * 4812730177 = 4294967296 ^^^ 517762881 by decide, Nat.xor_assoc, xlc (k * 2), xself]
theorem xmul2 (a b : Nat) : (a ^^^ b) * 2 = a * 2 ^^^ b * 2 := by
  have := @Nat.shiftLeft_xor_distrib 1 a b
  simpa [Nat.shiftLeft_eq] using this
theorem dbl_xor {a b : Nat} (ha : a < 4294967296) (hb : b < 4294967296) : dbl (a ^^^ b) = dbl a ^^^ dbl b := by
  unfold dbl
  rw [xmul2, show (2147483648 : Nat) = 2 ^ 31 by decide, Nat.xor_div_two_pow]
  have h1 : a / 2 ^ 31 = 0 ∨ a / 2 ^ 31 = 1 := by omega
  have h2 : b / 2 ^ 31 = 0 ∨ b / 2 ^ 31 = 1 := by omega
  rcases h1 with h1 | h1 <;> rcases h2 with h2 | h2 <;> rw [h1, h2] <;> simp [Nat.xor_assoc]
  · rw [Nat.xor_comm (b * 2)]
  · rw [xlc (4812730177) (b * 2), Nat.xor_self, Nat.xor_zero]
theorem dbl_lt {r : Nat} (h : r < 4294967296) : dbl r < 4294967296 := by
  rcases Nat.lt_or_ge r 2147483648 with h1 | h1
  · rw [dbl_small h1]; omega
  · rw [dbl_big h1 h]; exact xlt (Nat.mod_lt _ (by decide)) (by decide)

theorem polys : ∀ i, i < 32 → (517762881 : Nat).testBit i = (2197175160 : Nat).testBit (31 - i) := by decide
theorem tn_bit (c i : Nat) : (tn c).testBit i = (c.testBit (i + 1) ^^ (c.testBit 0 && (2197175160 : Nat).testBit i)) := by
  unfold tn
  rw [Nat.testBit_xor, ← Nat.testBit_succ, Nat.testBit_zero]
  rcases Nat.mod_two_eq_zero_or_one c with h | h <;> simp [h]
theorem dbl_bit {r : Nat} (h : r < 4294967296) (i : Nat) (hi : i < 32) : (dbl r).testBit i = ((decide (0 < i) && r.testBit (i - 1)) ^^ (r.testBit 31 && (517762881 : Nat).testBit i)) := by
  have t31 : r.testBit 31 = decide (2147483648 ≤ r) := by
    rw [Nat.testBit, Nat.shiftRight_eq_div_pow]
    by_cases h1 : 2147483648 ≤ r
    · rw [show r / 2 ^ 31 = 1 by omega]; simp [h1]
    · rw [show r / 2 ^ 31 = 0 by omega]; simp [h1]
  have t2 : (r * 2).testBit i = (decide (0 < i) && r.testBit (i - 1)) := by
    cases i with
    | zero => simp [Nat.testBit_zero]
    | succ i => rw [Nat.testBit_succ, show r * 2 / 2 = r by omega]; simp
  rw [t31]
  by_cases h1 : 2147483648 ≤ r
  · rw [dbl_big h1 h, Nat.testBit_xor, show (4294967296 : Nat) = 2 ^ 32 by decide, Nat.testBit_mod_two_pow, t2]
    simp [h1, hi]
  · rw [dbl_small (by omega), t2]; simp [h1]
/-- A turn, seen from the other end. -/
theorem rv_tn {c : Nat} (h : c < 4294967296) : rv 32 (tn c) = dbl (rv 32 c) := by
  have hr : rv 32 c < 4294967296 := rv_lt 32 c
  apply Nat.eq_of_testBit_eq
  intro i
  by_cases hi : i < 32
  · rw [rv_bit, dbl_bit hr i hi, rv_bit, rv_bit, tn_bit, polys i hi]
    simp only [hi, decide_true, Bool.true_and, show (31 : Nat) < 32 by decide]
    rw [show (32 - 1 - 31 : Nat) = 0 by decide, show 32 - 1 - i = 31 - i by omega]
    congr 1
    by_cases h0 : 0 < i
    · simp only [h0, decide_true, Bool.true_and, show i - 1 < 32 by omega]; congr 1; omega
    · have : i = 0 := by omega
      subst this; simp; exact high h (by omega)
  · rw [high (rv_lt 32 (tn c)) (by omega), high (dbl_lt hr) (by omega)]
theorem rv_it {c : Nat} (n : Nat) (h : c < 4294967296) : rv 32 (it tn n c) = it dbl n (rv 32 c) := by
  induction n generalizing c with
  | zero => rfl
  | succ n ih => simp only [it]; rw [ih (tn_lt h), rv_tn h]

/-- A byte's bits, one by one: behind i of them. -/
theorem tn_step (x v i : Nat) : it tn (i + 1) (x ^^^ v) ^^^ v / 2 ^ (i + 1) = tn ((it tn i (x ^^^ v) ^^^ v / 2 ^ i) ^^^ v / 2 ^ i % 2) := by
  rw [it_succ]
  generalize it tn i (x ^^^ v) = y
  have e : v / 2 ^ i ^^^ v / 2 ^ i % 2 = 2 * (v / 2 ^ i / 2) := by
    generalize v / 2 ^ i = u
    rcases Nat.mod_two_eq_zero_or_one u with h | h
    · rw [h, Nat.xor_zero]; omega
    · rw [h]
      obtain ⟨k, hk⟩ : ∃ k, u = 2 ^ 1 * k + 1 := ⟨u / 2, by omega⟩
      have hu : u / 2 = k := by omega
      have h3 : u = 2 ^ 1 * k ^^^ 1 := by rw [hk]; exact pax 1 (by decide) k
      rw [hu, h3, Nat.xor_assoc, Nat.xor_self, Nat.xor_zero]
  rw [Nat.xor_assoc, e, tn_xor, tn_two, Nat.pow_succ, ← Nat.div_div_eq_div_mul]

/-- The product of two remainders, by Horner. -/
def hor (a : Nat) : Nat → Nat → Nat
  | 0, _ => 0
  | j + 1, b => dbl (hor a j (b / 2)) ^^^ b % 2 * a
theorem hor_lt {a : Nat} (ha : a < 4294967296) (j : Nat) : ∀ b, hor a j b < 4294967296 := by
  induction j with
  | zero => intro b; simp [hor]
  | succ j ih =>
    intro b
    simp only [hor]
    refine xlt (dbl_lt (ih _)) ?_
    rcases Nat.mod_two_eq_zero_or_one b with h | h <;> rw [h] <;> omega
theorem hor_xor {a : Nat} (ha : a < 4294967296) (j : Nat) : ∀ b c, hor a j (b ^^^ c) = hor a j b ^^^ hor a j c := by
  induction j with
  | zero => intro b c; simp [hor]
  | succ j ih =>
    intro b c
    simp only [hor]
    rw [Nat.xor_div_two, ih, dbl_xor (hor_lt ha _ _) (hor_lt ha _ _), xmod2]
    rcases Nat.mod_two_eq_zero_or_one b with h | h <;> rcases Nat.mod_two_eq_zero_or_one c with h2 | h2 <;> rw [h, h2] <;> simp [Nat.xor_assoc]
    · rw [Nat.xor_comm (dbl _) a]
    · rw [xlc a, Nat.xor_self, Nat.xor_zero]
theorem hor_dbl {a : Nat} (ha : a < 4294967296) (j : Nat) : ∀ b, hor (dbl a) j b = dbl (hor a j b) := by
  induction j with
  | zero => intro b; simp [hor, dbl]
  | succ j ih =>
    intro b
    simp only [hor]
    have hb : b % 2 * a < 4294967296 := by rcases Nat.mod_two_eq_zero_or_one b with h | h <;> rw [h] <;> omega
    rw [ih, dbl_xor (dbl_lt (hor_lt ha _ _)) hb]
    rcases Nat.mod_two_eq_zero_or_one b with h | h <;> rw [h] <;> simp [dbl]
theorem hor_more (a : Nat) (j : Nat) : ∀ b, b < 2 ^ j → hor a (j + 1) b = hor a j b := by
  induction j with
  | zero => intro b h; have : b = 0 := by simpa using h
            subst this; simp [hor, dbl]
  | succ j ih =>
    intro b h
    rw [Nat.pow_succ] at h
    rw [hor, ih (b / 2) (by omega)]; rfl
theorem hor_top (a : Nat) (j : Nat) : hor a (j + 1) (2 ^ j) = it dbl j a := by
  induction j with
  | zero => simp [hor, it, dbl]
  | succ j ih =>
    rw [hor, show 2 ^ (j + 1) / 2 = 2 ^ j by rw [Nat.pow_succ]; omega, ih, it_succ, show 2 ^ (j + 1) % 2 = 0 by rw [Nat.pow_succ]; omega]; simp
/-- Two maps that go with xor and agree on each bit alone. -/
theorem basis {f g : Nat → Nat} (hf : ∀ a b, a < 4294967296 → b < 4294967296 → f (a ^^^ b) = f a ^^^ f b) (hg : ∀ a b, a < 4294967296 → b < 4294967296 → g (a ^^^ b) = g a ^^^ g b)
    (h0 : f 0 = g 0) (hb : ∀ i, i < 32 → f (2 ^ i) = g (2 ^ i)) : ∀ n, n ≤ 32 → ∀ a, a < 2 ^ n → f a = g a := by
  intro n
  induction n with
  | zero => intro _ a h; have : a = 0 := by simpa using h
            subst this; exact h0
  | succ n ih =>
    intro hn a h
    rcases Nat.lt_or_ge a (2 ^ n) with h1 | h1
    · exact ih (by omega) a h1
    · rw [Nat.pow_succ] at h
      have hp : 2 ^ n < 4294967296 := Nat.lt_of_lt_of_le (Nat.pow_lt_pow_right (by omega) (show n < 32 by omega)) (by decide)
      have e : a = 2 ^ n ^^^ (a - 2 ^ n) := by
        have := pax n (b := a - 2 ^ n) (by omega) 1
        rw [Nat.mul_one] at this; omega
      rw [e, hf _ _ hp (by omega), hg _ _ hp (by omega), hb n (by omega), ih (by omega) _ (by omega)]
theorem it_dbl_xor (n : Nat) {a b : Nat} (ha : a < 4294967296) (hb : b < 4294967296) : it dbl n (a ^^^ b) = it dbl n a ^^^ it dbl n b := by
  induction n generalizing a b with
  | zero => rfl
  | succ n ih => simp only [it]; rw [dbl_xor ha hb, ih (dbl_lt ha) (dbl_lt hb)]
theorem it_dbl_one (i : Nat) (h : i < 32) : it dbl i 1 = 2 ^ i := by
  induction i with
  | zero => rfl
  | succ i ih =>
    have hp : 2 ^ i < 2147483648 := Nat.lt_of_lt_of_le (Nat.pow_lt_pow_right (by omega) (show i < 31 by omega)) (by decide)
    rw [it_succ, ih (by omega), dbl_small hp, Nat.pow_succ]
theorem hor_it {a : Nat} (ha : a < 4294967296) (j b : Nat) : ∀ n, hor (it dbl n a) j b = it dbl n (hor a j b) := by
  intro n
  induction n with
  | zero => rfl
  | succ n ih => rw [it_succ, hor_dbl (it_lt (fun a h => dbl_lt h) n ha), ih, ← it_succ dbl]
theorem hor_add {a b : Nat} (ha : a < 4294967296) (hb : b < 4294967296) (j : Nat) : ∀ k, hor (a ^^^ b) j k = hor a j k ^^^ hor b j k := by
  induction j with
  | zero => intro k; simp [hor]
  | succ j ih =>
    intro k
    simp only [hor]
    rw [ih, dbl_xor (hor_lt ha _ _) (hor_lt hb _ _)]
    rcases Nat.mod_two_eq_zero_or_one k with h | h <;> rw [h] <;> simp [Nat.xor_assoc]
    rw [xlc a]
theorem hor_poly {a : Nat} (ha : a < 4294967296) : hor a 32 517762881 = it dbl 32 a := by
  refine basis (f := fun a => hor a 32 517762881) (g := it dbl 32) (fun a b ha hb => hor_add ha hb _ _) (fun a b ha hb => it_dbl_xor _ ha hb) ?_ ?_ 32 (by decide) a ha
  · decide +kernel
  · intro i hi
    show hor (2 ^ i) 32 517762881 = _
    rw [← it_dbl_one i hi, hor_it (by decide), ← it_add, Nat.add_comm 32, it_add]
    congr 1
/-- A product with a doubled one is the doubled product. -/
theorem hor_right {a b : Nat} (ha : a < 4294967296) (hb : b < 4294967296) : hor a 32 (dbl b) = dbl (hor a 32 b) := by
  have small : ∀ k, k < 2147483648 → hor a 32 (k * 2) = dbl (hor a 32 k) := fun k hk => by
    rw [hor, show k * 2 / 2 = k by omega, show k * 2 % 2 = 0 by omega, hor_more a 31 k hk]; simp
  rcases Nat.lt_or_ge b 2147483648 with h | h
  · rw [dbl_small h, small b h]
  · have e : b = 2147483648 ^^^ (b - 2147483648) := by
      have := pax 31 (b := b - 2147483648) (by omega) 1
      rw [Nat.mul_one, show (2 : Nat) ^ 31 = 2147483648 by decide] at this; omega
    have hk : b - 2147483648 < 2147483648 := by omega
    have et : hor a 32 2147483648 = it dbl 31 a := hor_top a 31
    rw [e, dbl_xor (by decide) (by omega), hor_xor ha, hor_xor ha, dbl_small hk, small _ hk, dbl_xor (hor_lt ha _ _) (hor_lt ha _ _), et, ← it_succ dbl]
    congr 1
    exact hor_poly ha
theorem hor_unit {a : Nat} (ha : a < 4294967296) (e : Nat) : hor a 32 (it dbl e 1) = it dbl e a := by
  induction e with
  | zero => exact (hor_more a 31 1 (by decide)).trans (by
      have : ∀ j, hor a (j + 1) 1 = a := fun j => by
        induction j with
        | zero => simp [hor, dbl]
        | succ j ih => rw [hor_more a (j + 1) 1 (Nat.one_lt_two_pow (by omega)), ih]
      exact this 30)
  | succ e ih => rw [it_succ, hor_right ha (it_lt (fun a h => dbl_lt h) e (by decide)), ih, it_succ]
end Go.Proofs.YtejchncdimcdbaaGreatDoor
