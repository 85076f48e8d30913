import Derived.Test.YtckkalmhekfnhabGreatDoorCZ
import Derived.Test.YtckkalmhekfnhabGreatDoorCrc
import Derived.Test.YtckkalmhekfnhabGreatDoorReMore
import Derived.Test.YtckkalmhekfnhabGreatDoorWNew
import Derived.Test.YtckkalmhekfnhabGreatDoorRNum
import Derived.Test.YtckkalmhekfnhabGreatDoorJoin
import Derived.Deep.DeepAppendRoom
import Derived.ArgAppend
import Derived.BigFrame
import Derived.Test.YtckkalmhekfnhabGreatDoorESameB
import Derived.Lib.SlBytesConst
import Derived.Test.YtckkalmhekfnhabGreatDoorSNum
import Derived.Laws.ShiftsVarLaws
import Derived.Laws.Cover3
import Derived.Test.YtckkalmhekfnhabGreatDoorQRow
import Derived.Deep.RegionHeld3

/-
  Plain reckoning: the check sum with its bits the other way round. No program, no model.
-/
namespace Go.Proofs.YtckkalmhekfnhabGreatDoor
set_option linter.unusedVariables false

theorem pax (i : Nat) {b : Nat} (h : b < 2 ^ i) (a : Nat) : 2 ^ i * a + b = 2 ^ i * a ^^^ b := by
  apply Nat.eq_of_testBit_eq
  intro j
  rw [Nat.testBit_two_pow_mul_add a h, Nat.testBit_xor, Nat.testBit_two_pow_mul]
  by_cases hj : j < i
  · simp [hj, show ¬ i ≤ j by omega]
  · have : b.testBit j = false := Nat.testBit_lt_two_pow (Nat.lt_of_lt_of_le h (Nat.pow_le_pow_right (by omega) (show i ≤ j by omega)))
    simp [hj, this, show i ≤ j by omega]

/-- The n lowest bits of c the other way round. -/
def rv : Nat → Nat → Nat
  | 0, _ => 0
  | n + 1, c => rv n c * 2 + c / 2 ^ n % 2
theorem rv_bit (n c : Nat) : ∀ i, (rv n c).testBit i = (decide (i < n) && c.testBit (n - 1 - i)) := by
  induction n with
  | zero => intro i; simp [rv]
  | succ n ih =>
    intro i
    cases i with
    | zero => simp [rv, Nat.testBit, Nat.shiftRight_eq_div_pow, Nat.and_comm 1]
    | succ i =>
      rw [Nat.testBit_succ, show rv (n + 1) c / 2 = rv n c by simp only [rv]; omega, ih i]
      by_cases hi : i < n
      · simp only [hi, decide_true, Bool.true_and, show i + 1 < n + 1 by omega]; congr 1; omega
      · simp [hi, show ¬ i + 1 < n + 1 by omega]
theorem rv_lt (n c : Nat) : rv n c < 2 ^ n := by
  induction n with
  | zero => simp [rv]
  | succ n ih => simp only [rv, Nat.pow_succ]; omega
theorem high {c i : Nat} (h : c < 4294967296) (hi : 32 ≤ i) : c.testBit i = false :=
  Nat.testBit_lt_two_pow (Nat.lt_of_lt_of_le h (show 2 ^ 32 ≤ 2 ^ i from Nat.pow_le_pow_right (by omega) hi))
theorem rv_rv {c : Nat} (h : c < 4294967296) : rv 32 (rv 32 c) = c := by
  apply Nat.eq_of_testBit_eq
  intro i
  rw [rv_bit, rv_bit]
  by_cases hi : i < 32
  · simp only [hi, decide_true, Bool.true_and, show 32 - 1 - i < 32 by omega]; congr 1; omega
  · simp [hi, high h (show 32 ≤ i by omega)]
theorem rv_xor (n a b : Nat) : rv n (a ^^^ b) = rv n a ^^^ rv n b := by
  apply Nat.eq_of_testBit_eq
  intro i
  rw [Nat.testBit_xor, rv_bit, rv_bit, rv_bit, Nat.testBit_xor]
  cases decide (i < n) <;> simp

/-- Doubled, modulo the polynomial: 33 bits, of which the highest falls out. -/
def dbl (r : Nat) : Nat := r * 2 ^^^ r / 2147483648 * 4812730177
theorem dbl_small {r : Nat} (h : r < 2147483648) : dbl r = r * 2 := by unfold dbl; rw [show r / 2147483648 = 0 by omega]; simp
theorem dbl_big {r : Nat} (h : 2147483648 ≤ r) (h2 : r < 4294967296) : dbl r = (r * 2 % 4294967296) ^^^ 517762881 := by
  unfold dbl
  rw [show r / 2147483648 = 1 by omega]
  obtain ⟨k, hk⟩ : ∃ k, r = 2147483648 + k := ⟨r - 2147483648, by omega⟩
  have e1 : r * 2 = 4294967296 ^^^ k * 2 := by
    have := pax 32 (b := k * 2) (by omega) 1
    rw [hk, show (4294967296 : Nat) = 2 ^ 32 * 1 by decide, ← this]; omega
  have e2 : r * 2 % 4294967296 = k * 2 := by omega
  rw [e2, e1, show 1 * 4812730177 = 4294967296 ^^^ 517762881 by decide, Nat.xor_assoc, xlc (k * 2), xself]
theorem xmul2 (a b : Nat) : (a ^^^ b) * 2 = a * 2 ^^^ b * 2 := by
  have := @Nat.shiftLeft_xor_distrib 1 a b
  simpa [Nat.shiftLeft_eq] using this
theorem dbl_xor {a b : Nat} (ha : a < 4294967296) (hb : b < 4294967296) : dbl (a ^^^ b) = dbl a ^^^ dbl b := by
  unfold dbl
  rw [xmul2, show (2147483648 : Nat) = 2 ^ 31 by decide, Nat.xor_div_two_pow]
  have h1 : a / 2 ^ 31 = 0 ∨ a / 2 ^ 31 = 1 := by omega
  have h2 : b / 2 ^ 31 = 0 ∨ b / 2 ^ 31 = 1 := by omega
  rcases h1 with h1 | h1 <;> rcases h2 with h2 | h2 <;> rw [h1, h2] <;> simp [Nat.xor_assoc]
  · rw [Nat.xor_comm (b * 2)]
  · rw [xlc (4812730177) (b * 2), Nat.xor_self, Nat.xor_zero]
theorem dbl_lt {r : Nat} (h : r < 4294967296) : dbl r < 4294967296 := by
  rcases Nat.lt_or_ge r 2147483648 with h1 | h1
  · rw [dbl_small h1]; omega
  · rw [dbl_big h1 h]; exact xlt (Nat.mod_lt _ (by decide)) (by decide)

theorem polys : ∀ i, i < 32 → (517762881 : Nat).testBit i = (2197175160 : Nat).testBit (31 - i) := by decide
theorem tn_bit (c i : Nat) : (tn c).testBit i = (c.testBit (i + 1) ^^ (c.testBit 0 && (2197175160 : Nat).testBit i)) := by
  unfold tn
  rw [Nat.testBit_xor, ← Nat.testBit_succ, Nat.testBit_zero]
  rcases Nat.mod_two_eq_zero_or_one c with h | h <;> simp [h]
theorem dbl_bit {r : Nat} (h : r < 4294967296) (i : Nat) (hi : i < 32) : (dbl r).testBit i = ((decide (0 < i) && r.testBit (i - 1)) ^^ (r.testBit 31 && (517762881 : Nat).testBit i)) := by
  have t31 : r.testBit 31 = decide (2147483648 ≤ r) := by
    rw [Nat.testBit, Nat.shiftRight_eq_div_pow]
    by_cases h1 : 2147483648 ≤ r
    · rw [show r / 2 ^ 31 = 1 by omega]; simp [h1]
    · rw [show r / 2 ^ 31 = 0 by omega]; simp [h1]
  have t2 : (r * 2).testBit i = (decide (0 < i) && r.testBit (i - 1)) := by
    cases i with
    | zero => simp [Nat.testBit_zero]
    | succ i => rw [Nat.testBit_succ, show r * 2 / 2 = r by omega]; simp
  rw [t31]
  by_cases h1 : 2147483648 ≤ r
  · rw [dbl_big h1 h, Nat.testBit_xor, show (4294967296 : Nat) = 2 ^ 32 by decide, Nat.testBit_mod_two_pow, t2]
    simp [h1, hi]
  · rw [dbl_small (by omega), t2]; simp [h1]
/-- A turn, seen from the other end. -/
theorem rv_tn {c : Nat} (h : c < 4294967296) : rv 32 (tn c) = dbl (rv 32 c) := by
  have hr : rv 32 c < 4294967296 := rv_lt 32 c
  apply Nat.eq_of_testBit_eq
  intro i
  by_cases hi : i < 32
  · rw [rv_bit, dbl_bit hr i hi, rv_bit, rv_bit, tn_bit, polys i hi]
    simp only [hi, decide_true, Bool.true_and, show (31 : Nat) < 32 by decide]
    rw [show (32 - 1 - 31 : Nat) = 0 by decide, show 32 - 1 - i = 31 - i by omega]
    congr 1
    by_cases h0 : 0 < i
    · simp only [h0, decide_true, Bool.true_and, show i - 1 < 32 by omega]; congr 1; omega
    · have : i = 0 := by omega
      subst this; simp; exact high h (by omega)
  · rw [high (rv_lt 32 (tn c)) (by omega), high (dbl_lt hr) (by omega)]
theorem rv_it {c : Nat} (n : Nat) (h : c < 4294967296) : rv 32 (it tn n c) = it dbl n (rv 32 c) := by
  induction n generalizing c with
  | zero => rfl
  | succ n ih => simp only [it]; rw [ih (tn_lt h), rv_tn h]

/-- A byte's bits, one by one: behind i of them. -/
theorem tn_step (x v i : Nat) : it tn (i + 1) (x ^^^ v) ^^^ v / 2 ^ (i + 1) = tn ((it tn i (x ^^^ v) ^^^ v / 2 ^ i) ^^^ v / 2 ^ i % 2) := by
  rw [it_succ]
  generalize it tn i (x ^^^ v) = y
  have e : v / 2 ^ i ^^^ v / 2 ^ i % 2 = 2 * (v / 2 ^ i / 2) := by
    generalize v / 2 ^ i = u
    rcases Nat.mod_two_eq_zero_or_one u with h | h
    · rw [h, Nat.xor_zero]; omega
    · rw [h]
      obtain ⟨k, hk⟩ : ∃ k, u = 2 ^ 1 * k + 1 := ⟨u / 2, by omega⟩
      have hu : u / 2 = k := by omega
      have h3 : u = 2 ^ 1 * k ^^^ 1 := by rw [hk]; exact pax 1 (by decide) k
      rw [hu, h3, Nat.xor_assoc, Nat.xor_self, Nat.xor_zero]
  rw [Nat.xor_assoc, e, tn_xor, tn_two, Nat.pow_succ, ← Nat.div_div_eq_div_mul]

/-- The product of two remainders, by Horner. -/
def hor (a : Nat) : Nat → Nat → Nat
  | 0, _ => 0
  | j + 1, b => dbl (hor a j (b / 2)) ^^^ b % 2 * a
theorem hor_lt {a : Nat} (ha : a < 4294967296) (j : Nat) : ∀ b, hor a j b < 4294967296 := by
  induction j with
  | zero => intro b; simp [hor]
  | succ j ih =>
    intro b
    simp only [hor]
    refine xlt (dbl_lt (ih _)) ?_
    rcases Nat.mod_two_eq_zero_or_one b with h | h <;> rw [h] <;> omega
theorem hor_xor {a : Nat} (ha : a < 4294967296) (j : Nat) : ∀ b c, hor a j (b ^^^ c) = hor a j b ^^^ hor a j c := by
  induction j with
  | zero => intro b c; simp [hor]
  | succ j ih =>
    intro b c
    simp only [hor]
    rw [Nat.xor_div_two, ih, dbl_xor (hor_lt ha _ _) (hor_lt ha _ _), xmod2]
    rcases Nat.mod_two_eq_zero_or_one b with h | h <;> rcases Nat.mod_two_eq_zero_or_one c with h2 | h2 <;> rw [h, h2] <;> simp [Nat.xor_assoc]
    · rw [Nat.xor_comm (dbl _) a]
    · rw [xlc a, Nat.xor_self, Nat.xor_zero]
theorem hor_dbl {a : Nat} (ha : a < 4294967296) (j : Nat) : ∀ b, hor (dbl a) j b = dbl (hor a j b) := by
  induction j with
  | zero => intro b; simp [hor, dbl]
  | succ j ih =>
    intro b
    simp only [hor]
    have hb : b % 2 * a < 4294967296 := by rcases Nat.mod_two_eq_zero_or_one b with h | h <;> rw [h] <;> omega
    rw [ih, dbl_xor (dbl_lt (hor_lt ha _ _)) hb]
    rcases Nat.mod_two_eq_zero_or_one b with h | h <;> rw [h] <;> simp [dbl]
theorem hor_more (a : Nat) (j : Nat) : ∀ b, b < 2 ^ j → hor a (j + 1) b = hor a j b := by
  induction j with
  | zero => intro b h; have : b = 0 := by simpa using h
            subst this; simp [hor, dbl]
  | succ j ih =>
    intro b h
    rw [Nat.pow_succ] at h
    rw [hor, ih (b / 2) (by omega)]; rfl
theorem hor_top (a : Nat) (j : Nat) : hor a (j + 1) (2 ^ j) = it dbl j a := by
  induction j with
  | zero => simp [hor, it, dbl]
  | succ j ih =>
    rw [hor, show 2 ^ (j + 1) / 2 = 2 ^ j by rw [Nat.pow_succ]; omega, ih, it_succ, show 2 ^ (j + 1) % 2 = 0 by rw [Nat.pow_succ]; omega]; simp
/-- Two maps that go with xor and agree on each bit alone. -/
theorem basis {f g : Nat → Nat} (hf : ∀ a b, a < 4294967296 → b < 4294967296 → f (a ^^^ b) = f a ^^^ f b) (hg : ∀ a b, a < 4294967296 → b < 4294967296 → g (a ^^^ b) = g a ^^^ g b)
    (h0 : f 0 = g 0) (hb : ∀ i, i < 32 → f (2 ^ i) = g (2 ^ i)) : ∀ n, n ≤ 32 → ∀ a, a < 2 ^ n → f a = g a := by
  intro n
  induction n with
  | zero => intro _ a h; have : a = 0 := by simpa using h
            subst this; exact h0
  | succ n ih =>
    intro hn a h
    rcases Nat.lt_or_ge a (2 ^ n) with h1 | h1
    · exact ih (by omega) a h1
    · rw [Nat.pow_succ] at h
      have hp : 2 ^ n < 4294967296 := Nat.lt_of_lt_of_le (Nat.pow_lt_pow_right (by omega) (show n < 32 by omega)) (by decide)
      have e : a = 2 ^ n ^^^ (a - 2 ^ n) := by
        have := pax n (b := a - 2 ^ n) (by omega) 1
        rw [Nat.mul_one] at this; omega
      rw [e, hf _ _ hp (by omega), hg _ _ hp (by omega), hb n (by omega), ih (by omega) _ (by omega)]
theorem it_dbl_xor (n : Nat) {a b : Nat} (ha : a < 4294967296) (hb : b < 4294967296) : it dbl n (a ^^^ b) = it dbl n a ^^^ it dbl n b := by
  induction n generalizing a b with
  | zero => rfl
  | succ n ih => simp only [it]; rw [dbl_xor ha hb, ih (dbl_lt ha) (dbl_lt hb)]
theorem it_dbl_one (i : Nat) (h : i < 32) : it dbl i 1 = 2 ^ i := by
  induction i with
  | zero => rfl
  | succ i ih =>
    have hp : 2 ^ i < 2147483648 := Nat.lt_of_lt_of_le (Nat.pow_lt_pow_right (by omega) (show i < 31 by omega)) (by decide)
    rw [it_succ, ih (by omega), dbl_small hp, Nat.pow_succ]
theorem hor_it {a : Nat} (ha : a < 4294967296) (j b : Nat) : ∀ n, hor (it dbl n a) j b = it dbl n (hor a j b) := by
  intro n
  induction n with
  | zero => rfl
  | succ n ih => rw [it_succ, hor_dbl (it_lt (fun a h => dbl_lt h) n ha), ih, ← it_succ dbl]
theorem hor_add {a b : Nat} (ha : a < 4294967296) (hb : b < 4294967296) (j : Nat) : ∀ k, hor (a ^^^ b) j k = hor a j k ^^^ hor b j k := by
  induction j with
  | zero => intro k; simp [hor]
  | succ j ih =>
    intro k
    simp only [hor]
    rw [ih, dbl_xor (hor_lt ha _ _) (hor_lt hb _ _)]
    rcases Nat.mod_two_eq_zero_or_one k with h | h <;> rw [h] <;> simp [Nat.xor_assoc]
    rw [xlc a]
theorem hor_poly {a : Nat} (ha : a < 4294967296) : hor a 32 517762881 = it dbl 32 a := by
  refine basis (f := fun a => hor a 32 517762881) (g := it dbl 32) (fun a b ha hb => hor_add ha hb _ _) (fun a b ha hb => it_dbl_xor _ ha hb) ?_ ?_ 32 (by decide) a ha
  · decide +kernel
  · intro i hi
    show hor (2 ^ i) 32 517762881 = _
    rw [← it_dbl_one i hi, hor_it (by decide), ← it_add, Nat.add_comm 32, it_add]
    congr 1
/-- A product with a doubled one is the doubled product. -/
theorem hor_right {a b : Nat} (ha : a < 4294967296) (hb : b < 4294967296) : hor a 32 (dbl b) = dbl (hor a 32 b) := by
  have small : ∀ k, k < 2147483648 → hor a 32 (k * 2) = dbl (hor a 32 k) := fun k hk => by
    rw [hor, show k * 2 / 2 = k by omega, show k * 2 % 2 = 0 by omega, hor_more a 31 k hk]; simp
  rcases Nat.lt_or_ge b 2147483648 with h | h
  · rw [dbl_small h, small b h]
  · have e : b = 2147483648 ^^^ (b - 2147483648) := by
      have := pax 31 (b := b - 2147483648) (by omega) 1
      rw [Nat.mul_one, show (2 : Nat) ^ 31 = 2147483648 by decide] at this; omega
    have hk : b - 2147483648 < 2147483648 := by omega
    have et : hor a 32 2147483648 = it dbl 31 a := hor_top a 31
    rw [e, dbl_xor (by decide) (by omega), hor_xor ha, hor_xor ha, dbl_small hk, small _ hk, dbl_xor (hor_lt ha _ _) (hor_lt ha _ _), et, ← it_succ dbl]
    congr 1
    exact hor_poly ha
theorem hor_unit {a : Nat} (ha : a < 4294967296) (e : Nat) : hor a 32 (it dbl e 1) = it dbl e a := by
  induction e with
  | zero => exact (hor_more a 31 1 (by decide)).trans (by
      have : ∀ j, hor a (j + 1) 1 = a := fun j => by
        induction j with
        | zero => simp [hor, dbl]
        | succ j ih => rw [hor_more a (j + 1) 1 (Nat.one_lt_two_pow (by omega)), ih]
      exact this 30)
  | succ e ih => rw [it_succ, hor_right ha (it_lt (fun a h => dbl_lt h) e (by decide)), ih, it_succ]
end Go.Proofs.YtckkalmhekfnhabGreatDoor
namespace Go.Proofs.YtckkalmhekfnhabGreatDoor
open Go.RowKit
set_option linter.unusedVariables false
set_option linter.unusedSimpArgs false

set_option maxRecDepth 100000 in
set_option maxHeartbeats 1000000 in
theorem turned_any (c : Nat) (w : World) (hc : c < 4294967296) :
    Calls Tryz.prog 151 #[.int .u32 c] w fun x w' => x = .returned (.int .u32 (rv 32 c)) ∧ w' = w := by
  go_enter Tryz.func151, Tryz.ntmps151
  go_wp2
  go_loopw [3, 4] (fun t3 t4 wr => ∃ k y : Nat, k ≤ 32 ∧ t3 = .int .u32 y ∧ t4 = .int .i64 k ∧ y < 2 ^ k ∧ Hid (y = rv k c) ∧ wr = w) (fun _ t _ => 32 - (intOf t).toNat)
  case atStart => exact ⟨0, 0, by omega, rfl, rfl, by omega, hide rfl, rfl⟩
  case round =>
    obtain ⟨k, y, hk, rfl, rfl, hyk, Hy, rfl⟩ := hrel
    by_cases hlt : k < 32
    · have hlt' : (k : Int) < 32 := by omega
      have hy2 : y < 2147483648 := Nat.lt_of_lt_of_le hyk (Nat.le_trans (Nat.pow_le_pow_right (by omega) (show k ≤ 31 by omega)) (by decide))
      have HP := hide (show y * 2 + c / 2 ^ k % 2 < 2 ^ (k + 1) by rw [Nat.pow_succ]; omega)
      have hd : (c : Int) / 2 ^ k = ((c / 2 ^ k : Nat) : Int) := by simp
      have hdl : c / 2 ^ k ≤ c := Nat.div_le_self _ _
      have HR := hide (show y * 2 + c / 2 ^ k % 2 = rv (k + 1) c by rw [unhide Hy]; rfl)
      generalize c / 2 ^ k = d at hd hdl HP HR
      clear hyk
      go_wp2
      go_roundw
      case rel =>
        refine ⟨k + 1, y * 2 + d % 2, by omega, ?_, by go_num, unhide HP, HR, trivial⟩
        go_num
      case measure => simp [intOf]; omega
    · have hlt' : ¬ (k : Int) < 32 := by omega
      have hk8 : k = 32 := by omega
      subst hk8
      go_wp2
      go_ret
      exact ⟨by rw [unhide Hy]; rfl, rfl⟩

set_option maxRecDepth 100000 in
set_option maxHeartbeats 1000000 in
theorem double_any (r : Nat) (w : World) (hr : r < 4294967296) :
    Calls Tryz.prog 152 #[.int .u32 r] w fun x w' => x = .returned (.int .u32 (dbl r)) ∧ w' = w := by
  by_cases h : 2147483648 ≤ r
  · have h' : (2147483648 : Int) ≤ r := by omega
    have hx : bits .xor .u32 ((r : Int) * 2 % 4294967296) 517762881 = (dbl r : Nat) := by
      rw [dbl_big h hr, show ((r : Int) * 2 % 4294967296) = ((r * 2 % 4294967296 : Nat) : Int) by omega, show (517762881 : Int) = ((517762881 : Nat) : Int) from rfl, u32_xor_nat _ _ (by omega) (by decide)]
    go_enter Tryz.func152, Tryz.ntmps152
    go_wp2
    go_ret
    exact ⟨rfl, rfl⟩
  · have h' : ¬ (2147483648 : Int) ≤ r := by omega
    go_enter Tryz.func152, Tryz.ntmps152
    go_wp2
    go_ret
    exact ⟨by rw [dbl_small (by omega)]; simp, rfl⟩

end Go.Proofs.YtckkalmhekfnhabGreatDoor
namespace Go.Proofs.YtckkalmhekfnhabGreatDoor
open Go.RowKit
set_option linter.unusedVariables false
set_option linter.unusedSimpArgs false

set_option maxRecDepth 100000 in
set_option maxHeartbeats 1000000 in
theorem rupdate_any (c : Nat) (v : Value) (p : List Nat) (w : World) (hc : c < 4294967296) (h : Rd w v p) :
    Calls Tryz.prog 144 #[.int .u32 c, v] w fun e w' => e = .returned (.int .u32 (upd c p)) ∧ w' = w := by
  obtain ⟨ao, len, cap, rfl, rfl, h2, ⟨h3, h3'⟩, h4, h5, h6⟩ := h
  have hcm := compl c hc
  have H5 := hide h5
  have H6 := hide h6
  clear h4 h5 h6
  have hcl : c ^^^ 4294967295 < 4294967296 := xlt hc (by decide)
  go_enter Tryz.func144, Tryz.ntmps144
  go_wp2_with fail
  refine (turned_any _ _ hcl).mono ?_
  rintro e w1 ⟨rfl, rfl⟩
  go_wp2
  go_loopw [5, 14] (fun t5 t14 wr => ∃ k y : Nat, k ≤ p.length ∧ y < 4294967296 ∧ t5 = .int .u32 (rv 32 y) ∧ t14 = .int .i64 k ∧ Hid (y = reg (c ^^^ 4294967295) (p.take k)) ∧ wr = w1) (fun _ t _ => p.length - (intOf t).toNat)
  case atStart => exact ⟨0, c ^^^ 4294967295, by omega, hcl, rfl, rfl, hide (by simp [reg]), rfl⟩
  case round =>
    obtain ⟨k, y, hk, hy, rfl, rfl, Hy, rfl⟩ := hrel
    by_cases hlt : k < p.length
    · have hlt' : (k : Int) < p.length := by omega
      obtain ⟨b, o, rfl, hcell⟩ := unhide H6 (by omega)
      have ck := hcell k hlt
      have hb := getD_byte (unhide H5) k
      have HN := hide (show reg (c ^^^ 4294967295) (p.take (k + 1)) = zz (y ^^^ p.getD k 0) by
        rw [List.take_succ_eq_append_getElem hlt, reg_append, ← unhide Hy, List.getD_eq_getElem?_getD, List.getElem?_eq_getElem hlt]; rfl)
      clear hcell
      generalize p.getD k 0 = z at ck hb HN
      have hxl : y ^^^ z < 4294967296 := xlt hy (by omega)
      go_wp2
      go_loopw [5, 8] (fun t5 t8 wq => ∃ i x : Nat, i ≤ 8 ∧ x < 4294967296 ∧ t5 = .int .u32 (rv 32 x) ∧ t8 = .int .i64 i ∧ Hid (x = it tn i (y ^^^ z) ^^^ z / 2 ^ i) ∧ wq = wr) (fun _ t _ => 8 - (intOf t).toNat)
      case atStart => exact ⟨0, y, by omega, hy, rfl, rfl, hide (by simp only [it, Nat.pow_zero, Nat.div_one]; rw [Nat.xor_assoc, Nat.xor_self, Nat.xor_zero]), rfl⟩
      case round =>
        obtain ⟨i, x, hi, hx, rfl, rfl, Hx, rfl⟩ := hrel
        by_cases hi8 : i < 8
        · have hi8' : (i : Int) < 8 := by omega
          have hd : (z : Int) / 2 ^ i = ((z / 2 ^ i : Nat) : Int) := by simp
          have hzl : z / 2 ^ i ≤ z := Nat.div_le_self _ _
          have HS := hide (by have := tn_step y z i; rw [← unhide Hx] at this; exact this : it tn (i + 1) (y ^^^ z) ^^^ z / 2 ^ (i + 1) = tn (x ^^^ z / 2 ^ i % 2))
          generalize z / 2 ^ i = d at hd hzl HS
          have hrx : rv 32 x < 4294967296 := rv_lt 32 x
          rcases Nat.mod_two_eq_zero_or_one d with h2 | h2
          · have hb2 : ((d : Int) % 2 == 1) = false := by simp; omega
            have HS' := hide (by have := unhide HS; rw [h2, Nat.xor_zero] at this; exact this)
            go_wp2_with fail
            refine (double_any _ _ hrx).mono ?_
            rintro x1 w2 ⟨rfl, rfl⟩
            rw [← rv_tn hx]
            go_wp2
            go_roundw
            case rel => exact ⟨i + 1, tn x, by omega, tn_lt hx, rfl, by go_num, hide (unhide HS').symm, trivial⟩
            case measure => simp [intOf]; omega
          · have hb2 : ((d : Int) % 2 == 1) = true := by simp; omega
            have hx1 : x ^^^ 1 < 4294967296 := xlt hx (by decide)
            have hbx : bits .xor .u32 (rv 32 x : Int) 2147483648 = (rv 32 (x ^^^ 1) : Nat) := by
              rw [show (2147483648 : Int) = ((2147483648 : Nat) : Int) from rfl, u32_xor_nat _ _ hrx (by decide), rv_xor]; rfl
            have HS' := hide (by have := unhide HS; rw [h2] at this; exact this)
            have hrx1 : rv 32 (x ^^^ 1) < 4294967296 := rv_lt 32 _
            go_wp2_with fail
            refine (double_any _ _ hrx1).mono ?_
            rintro x1 w2 ⟨rfl, rfl⟩
            rw [← rv_tn hx1]
            go_wp2
            go_roundw
            case rel => exact ⟨i + 1, tn (x ^^^ 1), by omega, tn_lt hx1, rfl, by go_num, hide (unhide HS').symm, trivial⟩
            case measure => simp [intOf]; omega
        · have hi8' : ¬ (i : Int) < 8 := by omega
          have hie : i = 8 := by omega
          subst hie
          go_wp2
          go_roundw
          case rel => exact ⟨k + 1, x, by omega, hx, rfl, by go_num, hide (by rw [unhide HN, unhide Hx, show z / 2 ^ 8 = 0 by omega, Nat.xor_zero]; rfl), trivial⟩
          case measure => simp [intOf]; omega
    · have hlt' : ¬ (k : Int) < p.length := by omega
      have hk8 : k = p.length := by omega
      subst hk8
      have hrr := rv_rv hy
      have hcy := compl y hy
      go_wp2_with fail
      refine (turned_any _ _ (rv_lt 32 y)).mono ?_
      rintro e w1 ⟨rfl, rfl⟩
      rw [hrr]
      go_wp2
      go_ret
      exact ⟨by rw [unhide Hy, List.take_length]; rfl, rfl⟩

set_option maxRecDepth 100000 in
set_option maxHeartbeats 1000000 in
theorem rsum_any (v : Value) (p : List Nat) (w : World) (h : Rd w v p) :
    Calls Tryz.prog 120 #[v] w fun e w' => e = .returned (.int .u32 (upd 0 p)) ∧ w' = w := by
  have H := hide h
  clear h
  go_enter Tryz.func120, Tryz.ntmps120
  go_wp2_with fail
  refine (rupdate_any 0 v p _ (by decide) (unhide H)).mono ?_
  rintro e w1 ⟨rfl, rfl⟩
  go_wp2
  go_ret
  exact ⟨rfl, rfl⟩

end Go.Proofs.YtckkalmhekfnhabGreatDoor
/-
  Plain reckoning: the bytes of a frame. No program.
-/
namespace Go.Proofs.YtckkalmhekfnhabGreatDoor
set_option linter.unusedVariables false
set_option linter.unusedSimpArgs false

theorem f_fold_form (r : List Nat) : ∀ a, (∀ y ∈ r, y < 256) → ∃ s, s < 256 ^ r.length ∧ r.foldl (fun a c => a * 256 + c) a = a * 256 ^ r.length + s := by
  induction r with
  | nil => intro a _; exact ⟨0, by simp, by simp⟩
  | cons c r ih =>
    intro a hb
    obtain ⟨s, hs, e⟩ := ih (a * 256 + c) (fun y hy => hb y (by simp [hy]))
    have hc := hb c (by simp)
    refine ⟨c * 256 ^ r.length + s, ?_, ?_⟩
    · simp only [List.length_cons]
      rw [Nat.pow_succ]
      have : c * 256 ^ r.length ≤ 255 * 256 ^ r.length := Nat.mul_le_mul (by omega) (Nat.le_refl _)
      omega
    · simp only [List.foldl_cons, List.length_cons]
      rw [e, Nat.pow_succ, Nat.add_mul, Nat.mul_comm (256 ^ r.length) 256, ← Nat.mul_assoc]; omega
theorem f_wide_fold (r : List Nat) : ∀ a, (∀ y ∈ r, y < 256) → wide (r.foldl (fun a c => a * 256 + c) a) r.length = r := by
  induction r with
  | nil => intro a _; rfl
  | cons c r ih =>
    intro a hb
    have hb' : ∀ y ∈ r, y < 256 := fun y hy => hb y (by simp [hy])
    have hc := hb c (by simp)
    obtain ⟨s, hs, e⟩ := f_fold_form r (a * 256 + c) hb'
    have h2 := ih (a * 256 + c) hb'
    simp only [List.foldl_cons, List.length_cons, wide]
    rw [h2, e]
    have hp : 0 < 256 ^ r.length := Nat.pow_pos (by omega)
    have : ((a * 256 + c) * 256 ^ r.length + s) / 256 ^ r.length = a * 256 + c := by
      rw [Nat.add_comm, Nat.add_mul_div_right _ _ hp, Nat.div_eq_of_lt hs, Nat.zero_add]
    rw [this]
    congr 1; omega
theorem f_fold_mod (r : List Nat) : ∀ a, (∀ y ∈ r, y < 256) → (a + 1) * 256 ^ r.length ≤ 18446744073709551616 → r.foldl (fun a c => (a * 256 + c) % 18446744073709551616) a = r.foldl (fun a c => a * 256 + c) a := by
  induction r with
  | nil => intro a _ _; rfl
  | cons c r ih =>
    intro a hb h
    have hc := hb c (by simp)
    simp only [List.foldl_cons]
    have hp : 0 < 256 ^ r.length := Nat.pow_pos (by omega)
    simp only [List.length_cons, Nat.pow_succ] at h
    have h2 : (a * 256 + c + 1) * 256 ^ r.length ≤ (a + 1) * (256 ^ r.length * 256) := by
      rw [Nat.mul_comm (256 ^ r.length) 256, ← Nat.mul_assoc]
      exact Nat.mul_le_mul (by omega) (Nat.le_refl _)
    have h3 : a * 256 + c + 1 ≤ (a * 256 + c + 1) * 256 ^ r.length := Nat.le_mul_of_pos_right _ hp
    rw [Nat.mod_eq_of_lt (by omega)]
    exact ih _ (fun y hy => hb y (by simp [hy])) (by omega)
theorem f_wide_beL {r : List Nat} (hb : ∀ y ∈ r, y < 256) (hl : r.length ≤ 8) : wide (beL r) r.length = r ∧ beL r < 256 ^ r.length := by
  have hpow : 256 ^ r.length ≤ 256 ^ 8 := Nat.pow_le_pow_right (by omega) hl
  have h8 : (256 : Nat) ^ 8 = 18446744073709551616 := (by decide)
  have e : beL r = r.foldl (fun a c => a * 256 + c) 0 := f_fold_mod r 0 hb (by omega)
  obtain ⟨s, hs, e2⟩ := f_fold_form r 0 hb
  rw [e]
  exact ⟨f_wide_fold r 0 hb, by rw [e2]; omega⟩
theorem f_beL_wide (v : Nat) : ∀ n a, n ≤ 8 → a * 256 ^ n + v % 256 ^ n < 18446744073709551616 → (wide v n).foldl (fun a c => (a * 256 + c) % 18446744073709551616) a = a * 256 ^ n + v % 256 ^ n := by
  intro n
  induction n with
  | zero => intro a _ _; simp [wide, Nat.mod_one]
  | succ n ih =>
    intro a hn h
    have hpow : 256 ^ (n + 1) = 256 ^ n * 256 := Nat.pow_succ ..
    have hv : v % 256 ^ (n + 1) = v / 256 ^ n % 256 * 256 ^ n + v % 256 ^ n := by
      rw [hpow, Nat.mod_mul]
      rw [Nat.mul_comm (256 ^ n)]; omega
    have hpos : 0 < 256 ^ n := Nat.pow_pos (by omega)
    have e1 : a * 256 ^ (n + 1) = a * 256 * 256 ^ n := by rw [hpow, Nat.mul_comm (256 ^ n) 256, Nat.mul_assoc]
    have e2 : (a * 256 + v / 256 ^ n % 256) * 256 ^ n = a * 256 * 256 ^ n + v / 256 ^ n % 256 * 256 ^ n := Nat.add_mul ..
    have hle : a * 256 + v / 256 ^ n % 256 ≤ (a * 256 + v / 256 ^ n % 256) * 256 ^ n := Nat.le_mul_of_pos_right _ hpos
    simp only [wide, List.foldl_cons]
    rw [Nat.mod_eq_of_lt (by omega), ih _ (by omega) (by omega)]
    omega
theorem beL_of_wide {v n : Nat} (hn : n ≤ 8) (hv : v < 256 ^ n) : beL (wide v n) = v := by
  have h3 : 256 ^ n ≤ 256 ^ 8 := Nat.pow_le_pow_right (by omega) hn
  have h4 : (256 : Nat) ^ 8 = 18446744073709551616 := (by decide)
  have h5 := f_beL_wide v n 0 hn (by rw [Nat.mod_eq_of_lt hv]; omega)
  unfold beL
  rw [h5, Nat.mod_eq_of_lt hv]; omega

/-- The check sum's text, and the sum. -/
def txF (pl : Nat) (pay : List Nat) : List Nat := wide pay.length 4 ++ (wide pl 8 ++ pay)
def sumF (pl : Nat) (pay : List Nat) : Nat := upd 0 (txF pl pay)
/-- The bytes of a frame. -/
def frB (pl : Nat) (pay : List Nat) : List Nat := 245 :: (wide pay.length 4 ++ (wide pl 8 ++ (wide (sumF pl pay) 4 ++ (pay ++ [95]))))
theorem frB_len (pl : Nat) (pay : List Nat) : (frB pl pay).length = pay.length + 18 := by simp [frB, wide_len]; omega
theorem txF_byte {pl : Nat} {pay : List Nat} (hb : ∀ x ∈ pay, x < 256) : ∀ x ∈ txF pl pay, x < 256 := by
  intro x hx
  simp only [txF, List.mem_append] at hx
  rcases hx with h | h | h
  · exact wide_byte _ _ _ h
  · exact wide_byte _ _ _ h
  · exact hb x h
theorem sumF_lt {pl : Nat} {pay : List Nat} (hb : ∀ x ∈ pay, x < 256) : sumF pl pay < 4294967296 := upd_lt (by decide) (txF_byte hb)
theorem frB_byte {pl : Nat} {pay : List Nat} (hb : ∀ x ∈ pay, x < 256) : ∀ x ∈ frB pl pay, x < 256 := by
  intro x hx
  simp only [frB, List.mem_append, List.mem_cons, List.not_mem_nil, or_false] at hx
  rcases hx with rfl | h | h | h | h | rfl
  · decide
  · exact wide_byte _ _ _ h
  · exact wide_byte _ _ _ h
  · exact wide_byte _ _ _ h
  · exact hb x h
  · decide

/-- The frame with which p begins. -/
def firstF (p : List Nat) : Option (Nat × List Nat) :=
  if p.getD 0 0 = 245 ∧ 1 ≤ beL ((p.drop 1).take 4) ∧ beL ((p.drop 1).take 4) ≤ 65535 ∧ 17 + beL ((p.drop 1).take 4) < p.length ∧ p.getD (17 + beL ((p.drop 1).take 4)) 0 = 95 ∧
      sumF (beL ((p.drop 5).take 8)) ((p.drop 17).take (beL ((p.drop 1).take 4))) = beL ((p.drop 13).take 4)
  then some (beL ((p.drop 5).take 8), (p.drop 17).take (beL ((p.drop 1).take 4))) else none

theorem frB_parts (pl : Nat) (pay t : List Nat) (hpl : pl < 18446744073709551616) (hl : pay.length ≤ 65535) (hb : ∀ x ∈ pay, x < 256) :
    ((frB pl pay ++ t).drop 1).take 4 = wide pay.length 4 ∧ ((frB pl pay ++ t).drop 5).take 8 = wide pl 8 ∧ ((frB pl pay ++ t).drop 13).take 4 = wide (sumF pl pay) 4 ∧ ((frB pl pay ++ t).drop 17).take pay.length = pay ∧ (frB pl pay ++ t).getD (17 + pay.length) 0 = 95 := by
  have h4 := wide_len pay.length 4
  have h8 := wide_len pl 8
  have hs := wide_len (sumF pl pay) 4
  obtain ⟨A, hA⟩ : ∃ A, wide pay.length 4 = A := ⟨_, rfl⟩
  obtain ⟨B, hB⟩ : ∃ B, wide pl 8 = B := ⟨_, rfl⟩
  obtain ⟨C, hC⟩ : ∃ C, wide (sumF pl pay) 4 = C := ⟨_, rfl⟩
  unfold frB
  rw [hA] at h4 ⊢
  rw [hB] at h8 ⊢
  rw [hC] at hs ⊢
  have e1 : (245 :: (A ++ (B ++ (C ++ (pay ++ [95])))) ++ t) = [245] ++ (A ++ (B ++ (C ++ (pay ++ ([95] ++ t))))) := by simp
  rw [e1]
  refine ⟨?_, ?_, ?_, ?_, ?_⟩
  · rw [List.drop_append_of_le_length (by simp)]; simp [List.take_append, h4]
  · rw [show 5 = 1 + 4 by rfl, ← List.drop_drop, List.drop_append_of_le_length (by simp), show List.drop 1 [245] = [] from rfl, List.nil_append, ← h4, List.drop_left, ← h8, List.take_left]
  · rw [show 13 = 1 + (4 + 8) by rfl, ← List.drop_drop, ← List.drop_drop, List.drop_append_of_le_length (by simp), show List.drop 1 [245] = [] from rfl, List.nil_append]
    rw [← h4, List.drop_left, ← h8, List.drop_left]
    rw [h4, ← hs, List.take_left]
  · rw [show 17 = 1 + (4 + (8 + 4)) by rfl, ← List.drop_drop, ← List.drop_drop, ← List.drop_drop, List.drop_append_of_le_length (by simp), show List.drop 1 [245] = [] from rfl, List.nil_append]
    conv => lhs; arg 2; arg 1; rw [← hs]
    conv => lhs; arg 2; arg 2; arg 1; rw [← h8]
    conv => lhs; arg 2; arg 2; arg 2; arg 1; rw [← h4]
    rw [List.drop_left, List.drop_left, List.drop_left, List.take_left]
  · rw [List.getD_eq_getElem?_getD, List.getElem?_append_right (by simp; omega), List.getElem?_append_right (by simp; omega), List.getElem?_append_right (by simp; omega), List.getElem?_append_right (by simp; omega), List.getElem?_append_right (by simp; omega), h4, h8, hs]
    simp only [List.length_cons, List.length_nil]
    rw [show 17 + pay.length - (0 + 1) - 4 - 8 - 4 - pay.length = 0 by omega]
    rfl

theorem firstF_some (pl : Nat) (pay t : List Nat) (hpl : pl < 18446744073709551616) (h1 : 1 ≤ pay.length) (hl : pay.length ≤ 65535) (hb : ∀ x ∈ pay, x < 256) : firstF (frB pl pay ++ t) = some (pl, pay) := by
  obtain ⟨p1, p2, p3, p4, p5⟩ := frB_parts pl pay t hpl hl hb
  have hlen : (frB pl pay ++ t).length = pay.length + 18 + t.length := by rw [List.length_append, frB_len]
  have h0 : (frB pl pay ++ t).getD 0 0 = 245 := rfl
  unfold firstF
  obtain ⟨P, hP⟩ : ∃ P, frB pl pay ++ t = P := ⟨_, rfl⟩
  rw [hP] at p1 p2 p3 p4 p5 hlen h0 ⊢
  rw [p1, p2, p3, beL_of_wide (by omega) (show pay.length < 256 ^ 4 by omega), beL_of_wide (by omega) (show pl < 256 ^ 8 by omega), beL_of_wide (by omega) (show sumF pl pay < 256 ^ 4 from sumF_lt hb), p4]
  rw [if_pos ⟨h0, h1, hl, by omega, p5, rfl⟩]

theorem firstF_form {p : List Nat} {pl : Nat} {pay : List Nat} (h : firstF p = some (pl, pay)) (hb : ∀ x ∈ p, x < 256) :
    pl < 18446744073709551616 ∧ 1 ≤ pay.length ∧ pay.length ≤ 65535 ∧ (∀ x ∈ pay, x < 256) ∧ p = frB pl pay ++ p.drop (pay.length + 18) := by
  unfold firstF at h
  split at h
  case isFalse => simp at h
  rename_i hc
  obtain ⟨c1, c2, c3, c4, c5, c6⟩ := hc
  simp only [Option.some.injEq, Prod.mk.injEq] at h
  obtain ⟨h1, h2⟩ := h
  have hd : ∀ a n x, x ∈ (p.drop a).take n → x < 256 := fun a n x hx => hb x (List.mem_of_mem_drop (List.mem_of_mem_take hx))
  have l4 : ((p.drop 1).take 4).length = 4 := by simp; omega
  have l8 : ((p.drop 5).take 8).length = 8 := by simp; omega
  have ls : ((p.drop 13).take 4).length = 4 := by simp; omega
  have w4 := f_wide_beL (hd 1 4) (by omega)
  have w8 := f_wide_beL (hd 5 8) (by omega)
  have ws := f_wide_beL (hd 13 4) (by omega)
  rw [l4] at w4
  rw [l8] at w8
  rw [ls] at ws
  have hpn : pay.length = beL ((p.drop 1).take 4) := by rw [← h2, List.length_take, List.length_drop]; omega
  have hpb : ∀ x ∈ pay, x < 256 := fun x hx => hd 17 _ x (by rw [← h2] at hx; exact hx)
  refine ⟨by rw [← h1]; have := w8.2; simpa using this, by omega, by omega, hpb, ?_⟩
  rw [h2, h1] at c6
  rw [h1] at w8
  unfold frB
  rw [c6, hpn, w4.1, w8.1, ws.1]
  have e0 : p = p.getD 0 0 :: p.drop 1 := by
    cases p with
    | nil => simp at c4
    | cons a r => rfl
  have e1 : p.drop 1 = (p.drop 1).take 4 ++ p.drop 5 := by rw [show 5 = 1 + 4 by rfl, ← List.drop_drop, List.take_append_drop]
  have e5 : p.drop 5 = (p.drop 5).take 8 ++ p.drop 13 := by rw [show 13 = 5 + 8 by rfl, ← List.drop_drop, List.take_append_drop]
  have e13 : p.drop 13 = (p.drop 13).take 4 ++ p.drop 17 := by rw [show 17 = 13 + 4 by rfl, ← List.drop_drop, List.take_append_drop]
  have e17 : p.drop 17 = pay ++ p.drop (17 + pay.length) := by rw [hpn, ← List.drop_drop, ← h2, List.take_append_drop]
  have e18 : p.drop (17 + pay.length) = [95] ++ p.drop (pay.length + 18) := by
    rw [hpn]
    rw [show beL ((p.drop 1).take 4) + 18 = 17 + beL ((p.drop 1).take 4) + 1 by omega]
    rw [List.drop_eq_getElem_cons c4]
    rw [List.getD_eq_getElem?_getD, List.getElem?_eq_getElem c4] at c5
    simp only [Option.getD_some] at c5
    rw [c5]; rfl
  rw [← hpn]
  conv => lhs; rw [e0, c1, e1, e5, e13, e17, e18]
  simp

/-- A frame cut short, with noughts behind it, is none. -/
theorem firstF_torn (pl : Nat) (pay : List Nat) (c k : Nat) (hpl : pl < 18446744073709551616) (hl : pay.length ≤ 65535) (hb : ∀ x ∈ pay, x < 256) (hc : c < pay.length + 18) :
    firstF ((frB pl pay).take c ++ List.replicate k 0) = none := by
  obtain ⟨p, hp⟩ : ∃ p, (frB pl pay).take c ++ List.replicate k 0 = p := ⟨_, rfl⟩
  have hpb : ∀ x ∈ p, x < 256 := by
    intro x hx
    rw [← hp] at hx
    rcases List.mem_append.1 hx with h | h
    · exact frB_byte hb x (List.mem_of_mem_take h)
    · have := (List.mem_replicate.1 h).2; omega
  have hlt : ((frB pl pay).take c).length = c := by rw [List.length_take, frB_len]; omega
  have hz : ∀ i, c ≤ i → p.getD i 0 = 0 := by
    intro i hi
    rw [← hp, List.getD_eq_getElem?_getD, List.getElem?_append_right (by omega), List.getElem?_replicate]
    split <;> rfl
  rw [hp]
  cases h : firstF p with
  | none => rfl
  | some x =>
    exfalso
    obtain ⟨pl', pay'⟩ := x
    obtain ⟨g1, g2, g3, g4, g5⟩ := firstF_form h hpb
    obtain ⟨p1, p2, p3, p4, p5⟩ := frB_parts pl' pay' (p.drop (pay'.length + 18)) g1 g3 g4
    rw [← g5] at p1 p5
    rcases Nat.lt_or_ge 17 c with h17 | h17
    · have q1 := (frB_parts pl pay [] hpl hl hb).1
      rw [List.append_nil] at q1
      have e : (p.drop 1).take 4 = ((frB pl pay).drop 1).take 4 := by
        rw [← hp, List.drop_append_of_le_length (by omega), List.take_append_of_le_length (by rw [List.length_drop, hlt]; omega), List.drop_take, List.take_take, Nat.min_eq_left (by omega)]
      rw [p1, q1] at e
      have e2 := congrArg beL e
      rw [beL_of_wide (by omega) (show pay'.length < 256 ^ 4 by omega), beL_of_wide (by omega) (show pay.length < 256 ^ 4 by omega)] at e2
      have := hz (17 + pay'.length) (by omega)
      omega
    · have := hz (17 + pay'.length) (by omega)
      omega

theorem getD_append_l (a b : List Nat) (i : Nat) (h : i < a.length) : (a ++ b).getD i 0 = a.getD i 0 := by
  rw [List.getD_eq_getElem?_getD, List.getElem?_append_left h, ← List.getD_eq_getElem?_getD]
theorem getD_append_r (a b : List Nat) (i : Nat) (h : a.length ≤ i) : (a ++ b).getD i 0 = b.getD (i - a.length) 0 := by
  rw [List.getD_eq_getElem?_getD, List.getElem?_append_right h, ← List.getD_eq_getElem?_getD]
/-- The text of the sum, out of the frame's bytes. -/
theorem tx_getD (pl : Nat) (pay : List Nat) (j : Nat) (h : j < 12 + pay.length) : (txF pl pay).getD j 0 = (frB pl pay).getD (if j < 12 then j + 1 else j + 5) 0 := by
  have h4 := wide_len pay.length 4
  have h8 := wide_len pl 8
  have hs := wide_len (sumF pl pay) 4
  unfold frB
  generalize wide (sumF pl pay) 4 = C at hs
  unfold txF
  generalize wide pay.length 4 = A at h4
  generalize wide pl 8 = B at h8
  split
  · rename_i h12
    rw [List.getD_cons_succ]
    rcases Nat.lt_or_ge j 4 with g | g
    · rw [getD_append_l _ _ _ (by omega), getD_append_l _ _ _ (by omega)]
    · rw [getD_append_r A _ _ (by omega), getD_append_r A _ _ (by omega), getD_append_l B _ _ (by omega), getD_append_l B _ _ (by omega)]
  · rename_i h12
    rw [show j + 5 = (j + 4) + 1 from rfl, List.getD_cons_succ]
    rw [getD_append_r A (B ++ pay) _ (by omega), getD_append_r B pay _ (by omega), getD_append_r A _ _ (by omega), getD_append_r B _ _ (by omega), getD_append_r C _ _ (by omega), getD_append_l pay _ _ (by omega), h4, h8, hs]
    congr 1
theorem txF_len (pl : Nat) (pay : List Nat) : (txF pl pay).length = 12 + pay.length := by simp [txF, wide_len]; omega
theorem ext_getD {p q : List Nat} (hl : p.length = q.length) (h : ∀ j, j < p.length → p.getD j 0 = q.getD j 0) : p = q := by
  refine List.ext_getElem hl fun i h1 h2 => ?_
  have := h i h1
  rw [List.getD_eq_getElem?_getD, List.getD_eq_getElem?_getD, List.getElem?_eq_getElem h1, List.getElem?_eq_getElem h2] at this
  simpa using this

/-- One byte turned, not of the length: no frame. -/
theorem firstF_turned (pl : Nat) (pay : List Nat) (at_ x : Nat) (hpl : pl < 18446744073709551616) (hl : pay.length ≤ 65535) (hb : ∀ x ∈ pay, x < 256) (ha : at_ < pay.length + 18) (ha' : at_ = 0 ∨ 5 ≤ at_) (hx : x < 256) (hn : x ≠ (frB pl pay).getD at_ 0) :
    firstF ((frB pl pay).set at_ x) = none := by
  obtain ⟨p, hp⟩ : ∃ p, (frB pl pay).set at_ x = p := ⟨_, rfl⟩
  have hpl' : p.length = pay.length + 18 := by rw [← hp, List.length_set, frB_len]
  have hpb : ∀ y ∈ p, y < 256 := by
    intro y hy
    rw [← hp] at hy
    rcases List.mem_or_eq_of_mem_set hy with h | h
    · exact frB_byte hb y h
    · omega
  have hg : ∀ j, j ≠ at_ → p.getD j 0 = (frB pl pay).getD j 0 := by
    intro j hj
    rw [← hp, List.getD_eq_getElem?_getD, List.getElem?_set_ne (by omega), ← List.getD_eq_getElem?_getD]
  have hg1 : p.getD at_ 0 = x := by
    rw [← hp, List.getD_eq_getElem?_getD, List.getElem?_set_self (by rw [frB_len]; exact ha)]; rfl
  rw [hp]
  cases h : firstF p with
  | none => rfl
  | some y =>
    exfalso
    obtain ⟨pl', pay'⟩ := y
    obtain ⟨g1, g2, g3, g4, g5⟩ := firstF_form h hpb
    have q1 := (frB_parts pl pay [] hpl hl hb).1
    rw [List.append_nil] at q1
    have p1 := (frB_parts pl' pay' (p.drop (pay'.length + 18)) g1 g3 g4).1
    rw [← g5] at p1
    have e : (p.drop 1).take 4 = ((frB pl pay).drop 1).take 4 := by
      refine ext_getD (by simp [frB_len, hpl']) fun j hj => ?_
      have hj4 : j < 4 := by rw [List.length_take] at hj; omega
      have := hg (j + 1) (by omega)
      simpa [List.getD_eq_getElem?_getD, List.getElem?_take, hj4, List.getElem?_drop] using this
    rw [p1, q1] at e
    have e2 := congrArg beL e
    rw [beL_of_wide (by omega) (show pay'.length < 256 ^ 4 by omega), beL_of_wide (by omega) (show pay.length < 256 ^ 4 by omega)] at e2
    have e3 : p = frB pl' pay' := by
      rw [List.drop_eq_nil_of_le (by omega), List.append_nil] at g5
      exact g5
    -- the sums' texts part in one byte at most
    have l1 := txF_len pl pay
    have l2 := txF_len pl' pay'
    have hd : ∀ j, j < 12 + pay.length → (if j < 12 then j + 1 else j + 5) ≠ at_ → (txF pl' pay').getD j 0 = (txF pl pay).getD j 0 := by
      intro j hj hne
      rw [tx_getD _ _ _ (by omega), tx_getD _ _ _ hj, ← e3, hg _ hne]
    have s1 := (frB_parts pl pay [] hpl hl hb).2.2.1
    rw [List.append_nil] at s1
    have s2 := (frB_parts pl' pay' [] g1 g3 g4).2.2.1
    rw [List.append_nil, ← e3] at s2
    by_cases hs : 13 ≤ at_ ∧ at_ < 17
    · -- the sum itself was turned: the text is the same
      have ht : txF pl' pay' = txF pl pay := ext_getD (by omega) fun j hj => hd j (by omega) (by split <;> omega)
      have hsum : sumF pl' pay' = sumF pl pay := by unfold sumF; rw [ht]
      rw [hsum, ← s1] at s2
      have := congrArg (fun l => l.getD (at_ - 13) 0) s2
      simp only [List.getD_eq_getElem?_getD, List.getElem?_take, List.getElem?_drop] at this
      rw [if_pos (by omega), show 13 + (at_ - 13) = at_ by omega, if_pos (by omega), ← List.getD_eq_getElem?_getD, ← List.getD_eq_getElem?_getD, hg1] at this
      exact hn this
    · have hsum : wide (sumF pl' pay') 4 = wide (sumF pl pay) 4 := by
        rw [← s1, ← s2]
        refine ext_getD (by simp [frB_len, hpl']) fun j hj => ?_
        have hj4 : j < 4 := by rw [List.length_take] at hj; omega
        have := hg (13 + j) (by omega)
        simpa [List.getD_eq_getElem?_getD, List.getElem?_take, hj4, List.getElem?_drop] using this
      have hsum2 := congrArg beL hsum
      rw [beL_of_wide (by omega) (show sumF pl' pay' < 256 ^ 4 from sumF_lt g4), beL_of_wide (by omega) (show sumF pl pay < 256 ^ 4 from sumF_lt hb)] at hsum2
      obtain ⟨z, hz⟩ : ∃ z, (if at_ < 13 then at_ - 1 else at_ - 5) = z := ⟨_, rfl⟩
      have hdz : ∀ j, j < 12 + pay.length → j ≠ z → (txF pl' pay').getD j 0 = (txF pl pay).getD j 0 := by
        intro j hj hne
        refine hd j hj ?_
        rw [← hz] at hne
        split at hne <;> split <;> omega
      have ht : txF pl' pay' = txF pl pay := by
        refine reg_tells (0 ^^^ 4294967295) _ _ z (by decide) (by omega) (txF_byte g4) (txF_byte hb) ?_ ?_ (upd_inj hsum2)
        · refine ext_getD (by simp; omega) fun j hj => ?_
          rw [List.length_take] at hj
          have := hdz j (by omega) (by omega)
          simpa [List.getD_eq_getElem?_getD, List.getElem?_take, show j < z by omega] using this
        · refine ext_getD (by simp; omega) fun j hj => ?_
          rw [List.length_drop] at hj
          have := hdz (z + 4 + j) (by omega) (by omega)
          simpa [List.getD_eq_getElem?_getD, List.getElem?_drop] using this
      have hfr : frB pl' pay' = frB pl pay := by
        have t1 : wide pay'.length 4 = wide pay.length 4 := e
        have t2 : wide pl' 8 ++ pay' = wide pl 8 ++ pay := by
          unfold txF at ht
          rw [t1] at ht
          exact List.append_cancel_left ht
        have t3 := List.append_inj t2 (by rw [wide_len, wide_len])
        unfold frB
        rw [t1, t3.1, hsum, t3.2]
      rw [e3, hfr] at hg1
      exact hn hg1.symm
end Go.Proofs.YtckkalmhekfnhabGreatDoor
namespace Go.Proofs.YtckkalmhekfnhabGreatDoor
open Go.RowKit
set_option linter.unusedVariables false
set_option linter.unusedSimpArgs false

set_option maxRecDepth 100000 in
set_option maxHeartbeats 1000000 in
theorem sumOf_any (pl : Nat) (v : Value) (p : List Nat) (w : World) (h : Rd w v p) (hpl : pl < 18446744073709551616) (hl : p.length ≤ 65535) :
    Calls Tryz.prog 63 #[.int .u64 pl, v] w fun e w' => e = .returned (.int .u32 (sumF pl p)) ∧ Kept [] w w' := by
  have H := hide h
  obtain ⟨a1, n1, c1, rfl, hn1, _⟩ := id h
  subst hn1
  clear h
  go_enter Tryz.func63, Tryz.ntmps63
  have HW0 := hide (Wn.start (Kept.refl [] w))
  go_wp2_with fail
  refine Calls.mono (wn_u32 p.length (unhide HW0) (by omega) (by simp)) ?_
  rintro e w1 ⟨rfl, v1, h1⟩
  have HW1 := hide h1
  clear h1 HW0
  go_wp2_with fail
  refine Calls.mono (wn_u64 pl (unhide HW1) (by simp [wide_len])) ?_
  rintro e w2 ⟨rfl, v2, h2⟩
  have HW2 := hide h2
  clear h2 HW1
  go_wp2_with fail
  refine Calls.mono (wn_bytes (unhide HW2) (by simp [wide_len])) ?_
  rintro e w3 ⟨v3, rfl, n3, k3⟩
  have HR3 := hide n3.1
  have HK3 := hide k3
  have HP3 := hide ((unhide H).old k3 (by simp))
  clear n3 k3 HW2
  go_wp2_with fail
  refine Calls.mono (sum_any v3 _ w3 (unhide HR3)) ?_
  rintro e w4 ⟨rfl, rfl⟩
  go_wp2_with fail
  refine Calls.mono (update_any _ _ p w4 (upd_lt (by decide) (unhide HR3).byte) (unhide HP3)) ?_
  rintro e w5 ⟨rfl, rfl⟩
  rw [← upd_append]
  go_wp2
  go_ret
  refine ⟨?_, unhide HK3⟩
  simp [sumF, txF, List.append_assoc]

/-- What Encode answers. -/
def encE (p : List Nat) : Nat := if 65535 < p.length then 2 else if p.length = 0 then 3 else 0
def encB (pl : Nat) (p : List Nat) : List Nat := if encE p = 0 then frB pl p else []

set_option maxRecDepth 100000 in
set_option maxHeartbeats 1000000 in
theorem encode_any (pl : Nat) (v : Value) (p : List Nat) (w : World) (h : Rd w v p) (hpl : pl < 18446744073709551616) :
    Calls Tryz.prog 34 #[.agg #[.int .u64 pl, v]] w fun e w' => ∃ v', e = .returned (.tuple #[v', .int .i64 (encE p)]) ∧ NewB w w' v' (encB pl p) ∧ Kept [] w w' := by
  have H := hide h
  obtain ⟨a1, n1, c1, rfl, hn1, _⟩ := id h
  subst hn1
  clear h
  by_cases h1 : 65535 < p.length
  · have h1' : (65535 : Int) < p.length := by omega
    have HE := hide (by simp [encE, h1] : encE p = 2)
    have HB := hide (by simp [encB, unhide HE] : encB pl p = [])
    rw [unhide HE, unhide HB]
    clear h1
    go_enter Tryz.func34, Tryz.ntmps34
    go_wp2
    go_ret2
    exact ⟨_, rfl, NewB.nil _ _, (Kept.refl [] w).alloc _⟩
  by_cases h0 : p.length = 0
  · have h1' : ¬ (65535 : Int) < p.length := by omega
    have h0' : (p.length : Int) = 0 := by omega
    have HE := hide (by simp [encE, h0] : encE p = 3)
    have HB := hide (by simp [encB, unhide HE] : encB pl p = [])
    rw [unhide HE, unhide HB]
    clear h1
    go_enter Tryz.func34, Tryz.ntmps34
    go_wp2
    go_ret2
    exact ⟨_, rfl, NewB.nil _ _, (Kept.refl [] w).alloc _⟩
  have h1' : ¬ (65535 : Int) < p.length := by omega
  have h0' : ¬ (p.length : Int) = 0 := by omega
  have HE := hide (by simp [encE, h0, h1] : encE p = 0)
  have HB := hide (by simp [encB, unhide HE] : encB pl p = frB pl p)
  rw [unhide HE, unhide HB]
  have hl : p.length ≤ 65535 := by omega
  clear h1 h0
  go_enter Tryz.func34, Tryz.ntmps34
  have HK0 := hide ((Kept.refl [] w).alloc (.cells #[.int .u64 (pl : Int), .slice a1 p.length c1] 82))
  have HC0 := hide (heap_alloc_new w (.cells #[.int .u64 (pl : Int), .slice a1 p.length c1] 82))
  go_wp2_with fail
  obtain ⟨W, hW⟩ : ∃ W, w.alloc (.cells #[.int .u64 (pl : Int), .slice a1 p.length c1] 82) = W := ⟨_, rfl⟩
  have hWs : W.heap.size = w.heap.size + 1 := by rw [← hW]; simp
  rw [hW] at HK0 HC0 ⊢
  clear hW
  have HW0 := hide (Wn.start (Kept.refl [] W))
  rw [hWs] at HW0
  refine Calls.mono (wn_u8 245 (unhide HW0) (by decide) (by simp)) ?_
  rintro e w1 ⟨rfl, v1, h1⟩
  have HW1 := hide h1
  have c1a : w1.cell? ⟨w.heap.size, 1, none⟩ = some (.slice a1 p.length c1) := h1.kept.cell (by rw [cell_of_row _ _ _ _ _ _ (unhide HC0)]; rfl) (by simp)
  clear h1 HW0
  go_wp2_with fail
  refine Calls.mono (wn_u32 p.length (unhide HW1) (by omega) (by simp [wide_len])) ?_
  rintro e w2 ⟨rfl, v2, h2⟩
  have HW2 := hide h2
  have c2 : w2.cell? ⟨w.heap.size, 0, none⟩ = some (.int .u64 pl) := h2.kept.cell (by rw [cell_of_row _ _ _ _ _ _ (unhide HC0)]; rfl) (by simp)
  clear h2 HW1 c1a
  go_wp2_with fail
  refine Calls.mono (wn_u64 pl (unhide HW2) (by simp [wide_len])) ?_
  rintro e w3 ⟨rfl, v3, h3⟩
  have HW3 := hide h3
  have c3 : w3.cell? ⟨w.heap.size, 0, none⟩ = some (.int .u64 pl) := h3.kept.cell (by rw [cell_of_row _ _ _ _ _ _ (unhide HC0)]; rfl) (by simp)
  have c3' : w3.cell? ⟨w.heap.size, 1, none⟩ = some (.slice a1 p.length c1) := h3.kept.cell (by rw [cell_of_row _ _ _ _ _ _ (unhide HC0)]; rfl) (by simp)
  clear h3 HW2 c2
  go_wp2_with fail
  refine Calls.mono (sumOf_any pl _ p w3 ((unhide H).old ((unhide HK0).trans (unhide HW3).kept (by simp)) (by simp)) hpl hl) ?_
  rintro e w4 ⟨rfl, k4⟩
  have HW4 := hide ((unhide HW3).pass k4)
  clear k4 HW3 c3 c3'
  go_wp2_with fail
  refine Calls.mono (wn_u32 (sumF pl p) (unhide HW4) (sumF_lt (unhide H).byte) (by simp [wide_len])) ?_
  rintro e w5 ⟨rfl, v5, h5⟩
  have HW5 := hide h5
  have c5' : w5.cell? ⟨w.heap.size, 1, none⟩ = some (.slice a1 p.length c1) := h5.kept.cell (by rw [cell_of_row _ _ _ _ _ _ (unhide HC0)]; rfl) (by simp)
  clear h5 HW4
  go_wp2_with fail
  refine Calls.mono (wn_raw (unhide HW5) ((unhide H).old ((unhide HK0).trans (unhide HW5).kept (by simp)) (by simp)) (by simp [wide_len]; omega)) ?_
  rintro e w6 ⟨rfl, v6, h6⟩
  have HW6 := hide h6
  clear h6 HW5 c5'
  go_wp2_with fail
  refine Calls.mono (wn_u8 95 (unhide HW6) (by decide) (by simp [wide_len]; omega)) ?_
  rintro e w7 ⟨rfl, v7, h7⟩
  have HW7 := hide h7
  clear h7 HW6
  go_wp2_with fail
  refine Calls.mono (wn_bytes (unhide HW7) (by simp [wide_len]; omega)) ?_
  rintro e w8 ⟨v8, rfl, n8, k8⟩
  have HN8 := hide n8
  have HK8 := hide ((unhide HK0).trans k8 (by simp))
  clear n8 k8
  go_wp2
  go_ret2
  refine ⟨_, rfl, ?_, unhide HK8⟩
  have e9 : [] ++ wide 245 1 ++ wide p.length 4 ++ wide pl 8 ++ wide (sumF pl p) 4 ++ p ++ wide 95 1 = frB pl p := by
    simp [frB, wide, List.append_assoc]
  rw [e9] at HN8
  exact (unhide HN8).weak (unhide HK0).size
end Go.Proofs.YtckkalmhekfnhabGreatDoor
namespace Go.Proofs.YtckkalmhekfnhabGreatDoor
open Go.RowKit
set_option linter.unusedVariables false
set_option linter.unusedSimpArgs false

theorem owns_base {w : World} {b b' e s n : Nat} {v : Value} {xs : List Value} (h : w.ownsRow b e s v n xs) (hb : b' ≤ b) : w.ownsRow b' e s v n xs := by
  refine ⟨h.1, ?_⟩
  rcases h.2 with h9 | ⟨g, cap, cur, h1, h2, h3⟩
  · exact .inl h9
  · exact .inr ⟨g, cap, cur, h1, Nat.le_trans hb h2, h3⟩
/-- A beginning of an owned row, with all its room, is owned. -/
theorem owns_take {w : World} {base : Nat} {a : Option Addr} {m c : Nat} {bs : List Nat} (h : w.ownsRow base 5 1 (.slice a m c) bs.length (bs.map u8)) (n : Nat) (hn : n ≤ bs.length) : w.ownsRow base 5 1 (.slice a n c) (bs.take n).length ((bs.take n).map u8) := by
  have hl : (bs.take n).length = n := by rw [List.length_take]; omega
  refine ⟨by simp, ?_⟩
  rcases h.2 with ⟨h9, h0⟩ | ⟨g, cap, cur, h1, h2, h3, h4, h5, h6, h7⟩
  · cases h9
    exact .inl ⟨by rw [show n = 0 by omega], by omega⟩
  · cases h1
    refine .inr ⟨g, c, cur, by rw [hl], h2, h3, by omega, h5, h6, ?_⟩
    rw [Nat.mul_one] at h7 ⊢
    rw [List.map_take, ← h7, List.take_take, hl, Nat.min_eq_left (by omega)]
/-- Where a row lies behind an append: where it lay, or in memory that is new. -/
def Went (w : World) (v v' : Value) : Prop := (∃ a n m c, v = .slice a n c ∧ v' = .slice a m c) ∨ ∃ g, v'.ownBlock = some g ∧ w.heap.size ≤ g
/-- All of a slice behind a row that is owned: both are owned then. -/
theorem appendTwo (w : World) (base : Nat) (v : Value) (bs p : List Nat) (ao : Option Addr) (n c : Nat) (h : w.ownsRow base 5 1 v bs.length (bs.map u8)) (hr : Rd w (.slice ao n c) p) (hl : bs.length + p.length ≤ 140737488355328) (hb : base ≤ w.heap.size) :
    ∃ ao' cap' w1, (Builtin.append_ #[29, 29] 29 #[v, .slice ao n c]).run Tryz.prog w = .ok (.slice ao' (bs.length + p.length) cap') w1 ∧
      w1.ownsRow base 5 1 (.slice ao' (bs.length + p.length) cap') (bs ++ p).length ((bs ++ p).map u8) ∧ w1.ownsRow base 5 1 v bs.length (bs.map u8) ∧ w.grownBy w1 v.ownBlock ∧ Went w v (.slice ao' (bs.length + p.length) cap') := by
  obtain ⟨i0, hi, hz0, hz1, hz2⟩ := info_parts Tryz.info5
  obtain ⟨ao1, n1, c1, he, hn, h2, ⟨h3, h3'⟩, h4, h5, h6⟩ := id hr
  cases he
  subst hn
  cases ao with
  | none =>
    have hc0 := h4 rfl
    have hp : p = [] := List.eq_nil_of_length_eq_zero (by omega)
    subst hp
    subst hc0
    have hrun := run_append_owned_none (P := Tryz.prog) (w := w) base 29 29 5 i0 1 Tryz.underlying29 hi v bs.length (bs.map u8) h
    obtain ⟨ao', cap', rfl⟩ := owns_shape h
    exact ⟨ao', cap', w, hrun, by simpa using h, h, World.grownBy.refl _ _, .inl ⟨_, _, _, _, rfl, rfl⟩⟩
  | some ad =>
    have hnews : ∀ j u, (p.map u8)[j]? = some u → w.cell? (ad.add j) = some u := by
      intro j u hj
      by_cases h0 : 0 < (p.map u8).length
      · obtain ⟨ad', e, hc⟩ := hr.src h0
        cases e
        exact hc j u hj
      · have : p.map u8 = [] := List.eq_nil_of_length_eq_zero (by omega)
        rw [this] at hj; simp at hj
    rcases h.2 with ⟨rfl, h0⟩ | ⟨g, cap, cur, rfl, _, hg, hc, hm, hs, ht⟩
    · obtain ⟨v', w1, hrun, hown, hgrow, _, hat⟩ := run_append_own_at (P := Tryz.prog) w base 29 29 5 i0 (.int .u8 0) 1 1 Tryz.underlying29 hi hz0 hz1 hz2 rfl (by decide)
        _ bs.length (bs.map u8) h ad p.length c (p.map u8) (by simp) hnews (u8_oneCell p) (by unfold maxLen; omega) (by omega) hb
      obtain ⟨ao', cap', rfl⟩ := owns_shape hown
      have hbs : bs = [] := List.eq_nil_of_length_eq_zero h0
      subst hbs
      refine ⟨ao', cap', w1, hrun, by simpa using hown, World.ownsRow_nil _ _ _ _, hgrow, ?_⟩
      rcases hown.2 with ⟨h9, _⟩ | ⟨g, cap, cur, h9, _⟩
      · injection h9 with e1 e2 e3; subst e1; subst e3; exact .inl ⟨_, _, _, _, rfl, rfl⟩
      · injection h9 with e1 e2 e3
        subst e1
        rcases hat with h8 | h8
        · simp [Value.ownBlock] at h8
        · exact .inr ⟨_, h8, Nat.le_refl _⟩
    · by_cases hroom : bs.length + p.length ≤ cap
      · obtain ⟨w1, hrun, hown, hgrow⟩ := run_append_own_spare (P := Tryz.prog) w base 29 29 5 i0 1 Tryz.underlying29 hi hz1 g bs.length cap (bs.map u8) h ad p.length c (p.map u8) (by simp) hnews (u8_oneCell p) hroom
        have hnew : w1.ownsRow base 5 1 (.slice (some ⟨g, 0, none⟩) (bs.length + p.length) cap) (bs ++ p).length ((bs ++ p).map u8) := by rw [List.length_append, List.map_append]; exact hown
        have h8 := owns_take hnew bs.length (by simp)
        rw [List.take_left] at h8
        exact ⟨_, _, w1, hrun, hnew, h8, hgrow, .inl ⟨_, _, _, _, rfl, rfl⟩⟩
      · obtain ⟨v', w1, hrun, hown, hgrow⟩ := run_append_arg_grows (P := Tryz.prog) w 29 29 5 i0 (.int .u8 0) 1 1 Tryz.underlying29 hi hz0 hz1 hz2 rfl (by decide)
          ⟨g, 0, none⟩ bs.length cap (bs.map u8) (by simp) (fun j u hj => h.cells (g := g) rfl j u hj) ad p.length c (p.map u8) (by simp) hnews (by omega) (by unfold maxLen; omega) (by omega)
        obtain ⟨ao', cap', rfl⟩ := owns_shape hown
        have hw : Went w (.slice (some ⟨g, 0, none⟩) bs.length cap) (.slice ao' (bs.length + p.length) cap') := by
          rcases hown.2 with ⟨h9, h8⟩ | ⟨g', cap2, cur2, h9, h8, _⟩
          · omega
          · cases h9; exact .inr ⟨_, rfl, h8⟩
        exact ⟨ao', cap', w1, hrun, by rw [List.length_append, List.map_append]; exact owns_base hown hb, ((Kept.refl [] w).grown hgrow (by simp)).owns h (by simp), ⟨hgrow.os, hgrow.tape, hgrow.output, hgrow.size, fun k hk _ => hgrow.block k hk (by simp)⟩, hw⟩
theorem wpList_appendTwo {ops : Array Oper} {rest : List Oper} {o : Oper} {a : Act} {Q : Exit → Act → World → Prop} (hgd : o.guard = none) (s x : Operand)
    (ho : o.op = .call { callee := .builtin .append, args := #[s, x], argTypes := #[29, 29] }) (hty : o.type = 29)
    (w : World) (base : Nat) (v : Value) (bs p : List Nat) (ao : Option Addr) (n c : Nat) (h : w.ownsRow base 5 1 v bs.length (bs.map u8)) (hr : Rd w (.slice ao n c) p) (hl : bs.length + p.length ≤ 140737488355328) (hb : base ≤ w.heap.size)
    (hs : a.eval s = v) (hx : a.eval x = .slice ao n c)
    (hK : ∀ ao' cap' w1, Hid (w1.ownsRow base 5 1 (.slice ao' (bs.length + p.length) cap') (bs ++ p).length ((bs ++ p).map u8)) → Hid (w1.ownsRow base 5 1 v bs.length (bs.map u8)) → Hid (w.grownBy w1 v.ownBlock) → Hid (Went w v (.slice ao' (bs.length + p.length) cap')) →
      wpList Tryz.prog ops Q rest (a.put o.dst (.slice ao' (bs.length + p.length) cap')) w1) :
    wpList Tryz.prog ops Q (o :: rest) a w := by
  obtain ⟨ao', cap', w1, hrun, h2, h3, h4, h5⟩ := appendTwo w base v bs p ao n c h hr hl hb
  refine wpList_plain hgd fun K hK' => ?_
  unfold Oper.wp execOp
  simp only [ho, hty, resolve, invoke, builtin, Sem.run_bind, Sem.run_pure, Result.andThen_ok, List.map_toArray, List.map_cons, List.map_nil, hs, hx, hrun]
  exact hK' _ _ (hK ao' cap' w1 h2 h3 h4 h5)
end Go.Proofs.YtckkalmhekfnhabGreatDoor
namespace Go.Proofs.YtckkalmhekfnhabGreatDoor
open Go.RowKit Go.BigFrame
set_option linter.unusedVariables false
set_option linter.unusedSimpArgs false

end Go.Proofs.YtckkalmhekfnhabGreatDoor
namespace Go.Proofs.YtckkalmhekfnhabGreatDoor
open Go.RowKit Go.BigFrame
set_option linter.unusedVariables false
set_option linter.unusedSimpArgs false

theorem rd_row {w : World} {g : Nat} (bs : List Nat) {cs : Array Value} {fr : Nat × Nat} (h : w.heap[g]? = some (.cells cs 5 fr)) (hc : cs = (bs.map u8).toArray) (hb : ∀ x ∈ bs, x < 256) (n : Nat) (hn : bs.length = n) (hl : n ≤ 140737488355328) : Rd w (.slice (some ⟨g, 0, none⟩) n n) bs := by
  refine ⟨_, n, n, rfl, hn, Nat.le_refl _, ⟨by omega, hl⟩, fun h => by simp at h, hb, fun hp => ⟨g, 0, rfl, fun i hi => ?_⟩⟩
  subst hc
  have hi' : i < bs.length := by omega
  rw [cell_of_row _ _ _ _ _ _ h, Nat.zero_add, List.getElem?_toArray, List.getElem?_map, List.getElem?_eq_getElem hi', List.getD_eq_getElem?_getD, List.getElem?_eq_getElem hi']
  rfl
theorem RdN.one {w : World} {g : Nat} {e : En} {kv vv : Value} {t : TypeId} {fr : Nat × Nat} (h : w.heap[g]? = some (.cells (enC e kv vv) t fr)) (ho : OkE w e kv vv) : RdN w (.slice (some ⟨g, 0, none⟩) 1 1) [e] := by
  refine ⟨_, 1, 1, fun _ => kv, fun _ => vv, rfl, rfl, Nat.le_refl _, by omega, fun i hi => ?_, fun _ => ⟨g, 0, rfl, fun i hi => ?_⟩⟩
  · have : i = 0 := by simpa using hi
    subst this; exact ho
  · have : i = 0 := by simpa using hi
    subst this
    intro j v hv
    rw [cell_of_row _ _ _ _ _ _ h, Nat.zero_mul, Nat.add_zero, Nat.zero_add, ← Array.getElem?_toList]
    exact hv
theorem heap_alloc3e (w : World) (a b c : Obj) : (((w.alloc a).alloc b).alloc c).heap[w.heap.size]? = some a ∧ (((w.alloc a).alloc b).alloc c).heap[w.heap.size + 1]? = some b ∧ (((w.alloc a).alloc b).alloc c).heap[w.heap.size + 1 + 1]? = some c := by
  refine ⟨?_, ?_, ?_⟩
  · exact (((Kept.refl [] (w.alloc a)).alloc b).alloc c).heap (heap_alloc_new w a) (by simp)
  · exact ((Kept.refl [] ((w.alloc a).alloc b)).alloc c).heap (alloc_at w a b) (by simp)
  · have h9 := alloc_at (w.alloc a) b c
    rw [show (w.alloc a).heap.size = w.heap.size + 1 from Array.size_push _] at h9
    exact h9
theorem decE_k : decE [1, 1, 107, 1, 118] = (⟨1, [107], [118]⟩, 0) := by decide +kernel
theorem decB_k : decB [172, 2, 1, 2, 0] = (300, [⟨2, [], []⟩], 0) := by decide +kernel
theorem chkB_k : chkB 300 [⟨2, [], []⟩] = 0 := by decide
theorem uv300 : uv 300 = [172, 2] := by rw [uv_ge (by decide), uv_lt (by decide)]
theorem batB_k : batB 300 [⟨2, [], []⟩] = [172, 2, 1, 2, 0] := by
  unfold batB entB enB
  rw [uv300]
  simp [uv_lt]
theorem enB_k : enB ⟨1, [107], [118]⟩ = [1, 1, 107, 1, 118] := by
  unfold enB
  simp [uv_lt]

end Go.Proofs.YtckkalmhekfnhabGreatDoor
namespace Go.Proofs.YtckkalmhekfnhabGreatDoor
open Go.RowKit Go.BigFrame
set_option linter.unusedVariables false
set_option linter.unusedSimpArgs false

def wideB (z : Int) : Bool := decide (1 ≤ z ∧ z ≤ 32)

set_option maxRecDepth 100000 in
theorem isWidth_any (z : Int) (w : World) : Calls Tryz.prog 32 #[.int .i64 z] w fun e w' => e = .returned (.bool (wideB z)) ∧ w' = w := by
  by_cases h1 : 1 ≤ z
  · by_cases h2 : z ≤ 32
    · have hb : wideB z = true := by simp [wideB, h1, h2]
      rw [hb]
      clear hb
      go_enter Tryz.func32, Tryz.ntmps32
      go_wp2
      go_ret
      exact ⟨rfl, rfl⟩
    · have hb : wideB z = false := by simp [wideB, h1]; omega
      have h2' : decide (z ≤ 32) = false := by simpa using h2
      rw [hb]
      clear hb
      go_enter Tryz.func32, Tryz.ntmps32
      go_wp2
      go_ret
      exact ⟨rfl, rfl⟩
  · have hb : wideB z = false := by simp [wideB]; omega
    have h1' : decide (1 ≤ z) = false := by simpa using h1
    rw [hb]
    clear hb
    go_enter Tryz.func32, Tryz.ntmps32
    go_wp2
    go_ret
    exact ⟨rfl, rfl⟩

/-- A list that may be appended to: owned, or without room. -/
def AppOk (base : Nat) (w : World) (v : Value) (bs : List Nat) : Prop := w.ownsRow base 5 1 v bs.length (bs.map u8) ∨ ∃ g, v = .slice (some ⟨g, 0, none⟩) bs.length bs.length ∧ Rd w v bs
theorem AppOk.pass {base : Nat} {w w' : World} {v : Value} {bs : List Nat} (h : AppOk base w v bs) (k : Kept [] w w') : AppOk base w' v bs := by
  rcases h with h | ⟨g, h1, h2⟩
  · exact .inl (k.owns h (by simp))
  · exact .inr ⟨g, h1, h2.old k (by simp)⟩
/-- One byte more. -/
theorem pushA (w0 w : World) (v : Value) (bs : List Nat) (z : Nat) (H : Nat) (k : Kept [] w0 w) (h : AppOk w0.heap.size w v bs) (hnew : w.heap[H]? = some (.cells #[.int .u8 (z : Int)] 5 (0, 0))) (hz : z < 256) (hl : bs.length + 1 ≤ 1000000000) :
    ∃ ao cap w1, (Builtin.append_ #[29, 29] 29 #[v, .slice (some ⟨H, 0, none⟩) 1 1]).run Tryz.prog w = .ok (.slice ao (bs.length + 1) cap) w1 ∧
      w1.ownsRow w0.heap.size 5 1 (.slice ao (bs.length + 1) cap) (bs ++ [z]).length ((bs ++ [z]).map u8) ∧ Kept [] w0 w1 := by
  have hr : Rd w (.slice (some ⟨H, 0, none⟩) 1 1) [z] := rd_lit hnew rfl (by simpa using hz) 1 rfl (by omega)
  rcases h with h | ⟨g, rfl, h2⟩
  · obtain ⟨ao, cap, w1, hrun, ho, hg, _⟩ := appendAll w w0.heap.size v bs [z] _ 1 1 h hr (by simp; omega) k.size
    exact ⟨ao, cap, w1, hrun, ho, k.grown hg (fun j hj => .inr (h.lt j hj).1)⟩
  · obtain ⟨i0, hi, hz0, hz1, hz2⟩ := info_parts Tryz.info5
    have hold : ∀ j u, (bs.map u8)[j]? = some u → w.cell? (Addr.add ⟨g, 0, none⟩ j) = some u := by
      intro j u hj
      by_cases h0 : 0 < (bs.map u8).length
      · obtain ⟨ad', e, hc⟩ := h2.src h0
        cases e
        exact hc j u hj
      · have : bs.map u8 = [] := List.eq_nil_of_length_eq_zero (by omega)
        rw [this] at hj; simp at hj
    have hnews : ∀ j u, ([z].map u8)[j]? = some u → w.cell? (Addr.add ⟨H, 0, none⟩ j) = some u := by
      intro j u hj
      obtain ⟨ad', e, hc⟩ := hr.src (by simp)
      cases e
      exact hc j u hj
    obtain ⟨v', w1, hrun, hown, hgrow⟩ := run_append_arg_grows (P := Tryz.prog) w 29 29 5 i0 (.int .u8 0) 1 1 Tryz.underlying29 hi hz0 hz1 hz2 rfl (by decide)
      ⟨g, 0, none⟩ bs.length bs.length (bs.map u8) (by simp) hold ⟨H, 0, none⟩ 1 1 ([z].map u8) (by simp) hnews (by omega) (by unfold maxLen; omega) (by omega)
    obtain ⟨ao', cap', rfl⟩ := owns_shape hown
    exact ⟨ao', cap', w1, hrun, by rw [List.length_append, List.map_append]; exact owns_base hown k.size, k.trans ((Kept.refl [] w).grown hgrow (by simp)) (by simp)⟩
theorem wpList_pushA {ops : Array Oper} {rest : List Oper} {o : Oper} {a : Act} {Q : Exit → Act → World → Prop} (hgd : o.guard = none) (s x : Operand)
    (ho : o.op = .call { callee := .builtin .append, args := #[s, x], argTypes := #[29, 29] }) (hty : o.type = 29)
    (w0 w : World) (v : Value) (bs : List Nat) (z : Nat) (H : Nat) (k : Kept [] w0 w) (h : AppOk w0.heap.size w v bs) (hnew : w.heap[H]? = some (.cells #[.int .u8 (z : Int)] 5 (0, 0))) (hz : z < 256) (hl : bs.length + 1 ≤ 1000000000)
    (hs : a.eval s = v) (hx : a.eval x = .slice (some ⟨H, 0, none⟩) 1 1)
    (hK : ∀ ao cap w1, Hid (w1.ownsRow w0.heap.size 5 1 (.slice ao (bs.length + 1) cap) (bs ++ [z]).length ((bs ++ [z]).map u8)) → Hid (Kept [] w0 w1) → wpList Tryz.prog ops Q rest (a.put o.dst (.slice ao (bs.length + 1) cap)) w1) :
    wpList Tryz.prog ops Q (o :: rest) a w := by
  obtain ⟨ao, cap, w1, hrun, h2, h3⟩ := pushA w0 w v bs z H k h hnew hz hl
  refine wpList_plain hgd fun K hK' => ?_
  unfold Oper.wp execOp
  simp only [ho, hty, resolve, invoke, builtin, Sem.run_bind, Sem.run_pure, Result.andThen_ok, List.map_toArray, List.map_cons, List.map_nil, hs, hx, hrun]
  exact hK' _ _ (hK ao cap w1 h2 h3)
theorem AppOk.shape {base : Nat} {w : World} {v : Value} {bs : List Nat} (h : AppOk base w v bs) : ∃ ao cap, v = .slice ao bs.length cap := by
  rcases h with h | ⟨g, h1, h2⟩
  · exact owns_shape h
  · exact ⟨_, _, h1⟩

set_option maxRecDepth 100000 in
set_option maxHeartbeats 2000000 in
theorem appendNumber_any (w0 w : World) (v : Value) (bs : List Nat) (x : Nat) (k : Kept [] w0 w) (h : AppOk w0.heap.size w v bs) (hl : bs.length ≤ 1000000) :
    Calls Tryz.prog 33 #[v, .int .u64 x] w fun e w' => ∃ v', e = .returned v' ∧ AppOk w0.heap.size w' v' (bs ++ wide x 8) ∧ Kept [] w0 w' := by
  have HH := hide h
  have HK := hide k
  clear h k
  go_enter Tryz.func33, Tryz.ntmps33
  go_wp2_with fail
  go_loopw [0, 5] (fun t0 t5 wr => ∃ (k : Nat) (cur : List Nat), t5 = .int .i64 ((k : Int) - 1) ∧ k ≤ 8 ∧ Hid (cur ++ wide x k = bs ++ wide x 8) ∧ Hid (AppOk w0.heap.size wr t0 cur) ∧ Hid (Kept [] w0 wr)) (fun _ t _ => (intOf t + 1).toNat)
  case atStart => exact ⟨8, bs, rfl, Nat.le_refl _, rfl, HH, HK⟩
  case round =>
    obtain ⟨k, cur, rfl, hk, Hp, HA, HK1⟩ := hrel
    have hlen : cur.length + k ≤ 1000008 := by have h1 := congrArg List.length (unhide Hp); simp [wide_len] at h1; omega
    by_cases h0 : k = 0
    · subst h0
      go_wp2
      go_ret
      have h1 : cur = bs ++ wide x 8 := by have h2 := unhide Hp; rw [show wide x 0 = [] from rfl, List.append_nil] at h2; exact h2
      exact ⟨_, rfl, by rw [← h1]; exact unhide HA, unhide HK1⟩
    · obtain ⟨j, rfl⟩ : ∃ j, k = j + 1 := ⟨k - 1, by omega⟩
      have e1 : (((j + 1 : Nat) : Int) - 1) = (j : Int) := by omega
      rw [e1]
      have hj0 : (0 : Int) ≤ (j : Int) := by omega
      have hj8 : (j : Int) ≤ 7 := by omega
      obtain ⟨q, hq⟩ : ∃ q, q = x / 256 ^ j := ⟨_, rfl⟩
      have hsh := shr8 x j (by omega)
      rw [← hq] at hsh
      have Hq := hide hq
      clear hq
      have hz1 : IntKind.u8.wrap (q : Int) = ((q % 256 : Nat) : Int) := by rw [IntKind.wrap_u8']; omega
      have hz2 : (q : Int) % 256 = ((q % 256 : Nat) : Int) := by omega
      have HZ := hide (Nat.mod_lt q (by decide : 0 < 256))
      obtain ⟨y, hy⟩ : ∃ y, q % 256 = y := ⟨_, rfl⟩
      rw [hy] at hz1 hz2 HZ
      have HY := hide hy
      have hval : (x : Int) / 2 ^ (8 * j) % 256 = (y : Int) := by
        have h1 : (x : Int) / 2 ^ (8 * j) = (q : Int) := by rw [unhide Hq, Int.pow_mul]; simp
        rw [h1, hz2]
      clear hy
      obtain ⟨ao, cap, he⟩ := (unhide HA).shape
      subst he
      go_wp2_with (at_builtin; go_must (refine wpList_pushA rfl (.tmp 10) (.tmp 16) rfl rfl w0 _ (.slice ao cur.length cap) cur y wr.heap.size ((unhide HK1).alloc _) ((unhide HA).pass ((Kept.refl [] wr).alloc _)) (heap_alloc_new _ _) (unhide HZ) (by omega) rfl rfl ?_; intro ao2 cap2 w2 HO2 HK2))
      go_roundw
      case rel => exact ⟨j, cur ++ [y], rfl, by omega, hide (by rw [← unhide Hp, ← unhide HY, unhide Hq]; simp [wide]), hide (.inl (unhide HO2)), HK2⟩
      case measure => simp [intOf]
theorem hcells {w : World} {b : Nat} {x0 x1 x2 x3 : Value} {t : TypeId} (h : w.heap[b]? = some (.cells #[x0, x1, x2, x3] t (0, 0))) : w.cell? ⟨b, 0, none⟩ = some x0 ∧ w.cell? ⟨b, 1, none⟩ = some x1 ∧ w.cell? ⟨b, 2, none⟩ = some x2 ∧ w.cell? ⟨b, 3, none⟩ = some x3 := by
  refine ⟨?_, ?_, ?_, ?_⟩ <;> rw [cell_of_row _ _ _ _ _ _ h] <;> rfl
/-- A head's payload. -/
def headB (a b c : Nat) (z : Int) : List Nat := [78, 84, 82, 89, 49] ++ wide a 8 ++ wide b 8 ++ wide c 8 ++ [(z % 256).toNat]
theorem headB_eq (a b c : Nat) (z : Int) : headB a b c z = [78, 84, 82, 89, 49] ++ wide a 8 ++ wide b 8 ++ wide c 8 ++ [(z % 256).toNat] := rfl
theorem headB_len (a b c : Nat) (z : Int) : (headB a b c z).length = 30 := by simp [headB, wide_len]
/-- What EncodeHead answers. -/
def ehE (z : Int) : Nat := if wideB z then 0 else 1
def ehB (a b c : Nat) (z : Int) : List Nat := if wideB z then frB a (headB a b c z) else []

set_option maxRecDepth 100000 in
set_option maxHeartbeats 2000000 in
theorem encodeHead_any (a b c : Nat) (z : Int) (w : World) (ha : a < 18446744073709551616) (hz : -9223372036854775808 ≤ z ∧ z ≤ 9223372036854775807) :
    Calls Tryz.prog 9 #[.agg #[.int .u64 a, .int .u64 b, .int .u64 c, .int .i64 z]] w fun e w' => ∃ v', e = .returned (.tuple #[v', .int .i64 (ehE z)]) ∧ NewB w w' v' (ehB a b c z) ∧ Kept [] w w' := by
  have HK0 := hide ((Kept.refl [] w).alloc (.cells #[.int .u64 a, .int .u64 b, .int .u64 c, .int .i64 z] 33))
  have HB0 := hide (heap_alloc_new w (.cells #[.int .u64 a, .int .u64 b, .int .u64 c, .int .i64 z] 33))
  by_cases hw : wideB z = true
  · have hE : ehE z = 0 := by simp [ehE, hw]
    have hB : ehB a b c z = frB a (headB a b c z) := by simp [ehB, hw]
    rw [hE, hB]
    clear hE hB
    have hzz : 1 ≤ z ∧ z ≤ 32 := by simpa [wideB] using hw
    have kc : (convert 29 29 (.slice (some ⟨w.heap.size + 1, 0, none⟩) 5 5)).run Tryz.prog ((w.alloc (.cells #[.int .u64 a, .int .u64 b, .int .u64 c, .int .i64 z] 33)).alloc (.cells #[.int .u8 78, .int .u8 84, .int .u8 82, .int .u8 89, .int .u8 49] 5)) = .ok (.slice (some ⟨w.heap.size + 1, 0, none⟩) 5 5) ((w.alloc (.cells #[.int .u64 a, .int .u64 b, .int .u64 c, .int .i64 z] 33)).alloc (.cells #[.int .u8 78, .int .u8 84, .int .u8 82, .int .u8 89, .int .u8 49] 5 (5, 6))) := by
      have h9 := Lib.run_convert_bytes_const (P := Tryz.prog) (w.alloc (.cells #[.int .u64 a, .int .u64 b, .int .u64 c, .int .i64 z] 33)) 29 5 #[.int .u8 78, .int .u8 84, .int .u8 82, .int .u8 89, .int .u8 49] 5 5 Tryz.underlying29 Tryz.underlying5
      rw [show (w.alloc (.cells #[.int .u64 a, .int .u64 b, .int .u64 c, .int .i64 z] 33)).heap.size = w.heap.size + 1 by simp] at h9
      exact h9
    go_enter Tryz.func9, Tryz.ntmps9
    go_wp2_with fail
    refine Calls.mono (isWidth_any z _) ?_
    rintro e w1 ⟨rfl, rfl⟩
    rw [hw]
    go_wp2_with fail
    obtain ⟨W1, hW1⟩ : ∃ W, w.alloc (.cells #[.int .u64 a, .int .u64 b, .int .u64 c, .int .i64 z] 33) = W := ⟨_, rfl⟩
    have hs1 : W1.heap.size = w.heap.size + 1 := by rw [← hW1]; simp
    rw [hW1] at HK0 HB0 ⊢
    have HS1 := hide hs1
    clear hW1 hs1 kc
    obtain ⟨W2, hW2⟩ : ∃ W, W1.alloc (.cells #[.int .u8 78, .int .u8 84, .int .u8 82, .int .u8 89, .int .u8 49] 5 (5, 6)) = W := ⟨_, rfl⟩
    have HK2 := hide (by rw [← hW2]; exact (Kept.refl [] W1).alloc _ : Kept [] W1 W2)
    have HR2 := hide (by rw [← hW2, ← unhide HS1]; exact rd_row [78, 84, 82, 89, 49] (heap_alloc_new W1 _) rfl (by decide) 5 rfl (by decide) : Rd W2 (.slice (some ⟨w.heap.size + 1, 0, none⟩) 5 5) [78, 84, 82, 89, 49])
    rw [hW2]
    clear hW2
    obtain ⟨d0, d1, d2, d3⟩ := hcells ((unhide HK2).heap (unhide HB0) (by simp))
    refine Calls.mono (appendNumber_any W1 W2 _ [78, 84, 82, 89, 49] a (unhide HK2) (.inr ⟨_, rfl, unhide HR2⟩) (by decide)) ?_
    rintro e w3 ⟨v3, rfl, o3, k3⟩
    obtain ⟨a3, c3, rfl⟩ := o3.shape
    have HO3 := hide o3
    have HK3 := hide k3
    clear o3 k3 d0 d1 d2 d3 HR2 HK2
    obtain ⟨d0, d1, d2, d3⟩ := hcells ((unhide HK3).heap (unhide HB0) (by simp))
    go_wp2_with fail
    refine Calls.mono (appendNumber_any W1 w3 _ _ b (unhide HK3) (unhide HO3) (by simp [wide_len])) ?_
    rintro e w4 ⟨v4, rfl, o4, k4⟩
    obtain ⟨a4, c4, rfl⟩ := o4.shape
    have HO4 := hide o4
    have HK4 := hide k4
    clear o4 k4 d0 d1 d2 d3 HO3 HK3
    obtain ⟨d0, d1, d2, d3⟩ := hcells ((unhide HK4).heap (unhide HB0) (by simp))
    go_wp2_with fail
    refine Calls.mono (appendNumber_any W1 w4 _ _ c (unhide HK4) (unhide HO4) (by simp [wide_len])) ?_
    rintro e w5 ⟨v5, rfl, o5, k5⟩
    obtain ⟨a5, c5, rfl⟩ := o5.shape
    have HO5 := hide o5
    have HK5 := hide k5
    clear o5 k5 d0 d1 d2 d3 HO4 HK4
    have hbl : ([78, 84, 82, 89, 49] ++ wide a 8 ++ wide b 8 ++ wide c 8).length = 29 := by simp [wide_len]
    have HHB := hide (headB_eq a b c z)
    generalize [78, 84, 82, 89, 49] ++ wide a 8 ++ wide b 8 ++ wide c 8 = bs at HO5 HHB hbl
    obtain ⟨y, hy⟩ : ∃ y : Nat, z = (y : Int) := ⟨z.toNat, by omega⟩
    subst hy
    have hy2 : ((y : Int) % 256).toNat = y := by omega
    rw [hy2] at HHB
    have hval : (y : Int) % 256 = (y : Int) := by omega
    have HLB := hide hbl
    have hyl : y < 256 := by omega
    have HYL := hide hyl
    obtain ⟨d0, d1, d2, d3⟩ := hcells ((unhide HK5).heap (unhide HB0) (by simp))
    clear hbl hy2 hyl
    go_wp2_with (at_builtin; go_must (refine wpList_pushA rfl (.tmp 23) (.tmp 27) rfl rfl W1 _ _ bs y w5.heap.size ((unhide HK5).alloc _) (by exact (unhide HO5).pass ((Kept.refl [] w5).alloc _)) (heap_alloc_new _ _) (unhide HYL) (by rw [unhide HLB]; omega) rfl rfl ?_; intro a6 c6 w6 HO6 HK6; obtain ⟨x0, x1, x2, x3⟩ := hcells ((unhide HK6).heap (unhide HB0) (by simp))))
    have HK0w := hide (unhide HK6)
    have hby : ∀ x ∈ bs ++ [y], x < 256 := by
      have h9 : ∀ x ∈ headB a b c (y : Int), x < 256 := by
        intro x hx
        unfold headB at hx
        simp only [List.mem_append, List.mem_cons, List.not_mem_nil, or_false] at hx
        rcases hx with ((((h | h | h | h | h) | h) | h) | h) | h
        · omega
        · omega
        · omega
        · omega
        · omega
        · exact wide_byte _ _ x h
        · exact wide_byte _ _ x h
        · exact wide_byte _ _ x h
        · omega
      rw [unhide HHB] at h9; exact h9
    have HR6 := hide (rd_owns (unhide HO6) hby (by rw [List.length_append, unhide HLB]; simp))
    clear hby d0 d1 d2 d3
    refine Calls.mono (encode_any a _ (bs ++ [y]) w6 (unhide HR6) ha) ?_
    rintro e w7 ⟨v7, rfl, n7, k7⟩
    have hel : (bs ++ [y]).length = 30 := by rw [List.length_append, unhide HLB]; rfl
    have hee : encE (bs ++ [y]) = 0 := by unfold encE; rw [hel]; rfl
    have heb : encB a (bs ++ [y]) = frB a (bs ++ [y]) := by unfold encB; rw [hee]; rfl
    rw [heb] at n7
    rw [hee]
    have HN7 := hide (n7.weak (w0 := w) (Nat.le_trans (unhide HK0).size (unhide HK6).size))
    have HK7 := hide (((unhide HK0).trans (unhide HK6) (by simp)).trans k7 (by simp))
    clear n7 k7 hel hee heb
    go_wp2
    go_ret2
    exact ⟨_, rfl, by rw [unhide HHB]; exact unhide HN7, unhide HK7⟩
  · have hw' : wideB z = false := by simpa using hw
    have hE : ehE z = 1 := by simp [ehE, hw']
    have hB : ehB a b c z = [] := by simp [ehB, hw']
    rw [hE, hB]
    clear hE hB hw
    go_enter Tryz.func9, Tryz.ntmps9
    go_wp2_with fail
    refine Calls.mono (isWidth_any z _) ?_
    rintro e w1 ⟨rfl, rfl⟩
    rw [hw']
    go_wp2
    go_ret2
    exact ⟨_, rfl, NewB.nil _ _, unhide HK0⟩
end Go.Proofs.YtckkalmhekfnhabGreatDoor
namespace Go.Proofs.YtckkalmhekfnhabGreatDoor
open Go.RowKit
set_option linter.unusedVariables false
set_option linter.unusedSimpArgs false

/-- A literal of an array, as a row that is known. -/
theorem f_build_as {P : Program} {ops : Array Oper} {rest : List Oper} {o : Oper} {a : Act} {w : World} {Q : Exit → Act → World → Prop} (hg : o.guard = none) (t : TypeId) (parts : Array (Nat × Operand)) (ho : o.op = .build t parts) (cs : Array Value)
    (hb : P.built t (parts.map fun (i, x) => (i, a.eval x)).toList = some cs) (h : wpList P ops Q rest (a.put o.dst (.agg cs)) w) : wpList P ops Q (o :: rest) a w :=
  wpList_build hg t parts ho (by rw [hb]; rfl) (by rw [hb]; exact h)
theorem f_results_cell_tmp {P : Program} {fn : Func} {p q : Tmp} {ty : TypeId} (h : fn.results = #[.cell p ty, .tmp q]) (tmps : Array Value) (w : World) (g : Nat) (t : TypeId) (cs : Array Value) (fr : Nat × Nat) (d : TypeDesc)
    (hp : tmps.getD p undef = .pointer (some ⟨g, 0, none⟩)) (hg : w.heap[g]? = some (.cells cs t fr))
    (hu : P.underlying ty = some d) (hd : (match d with | .struct _ | .array _ _ => true | _ => false) = true) (hi : (P.info? ty).map (·.size) = some cs.size) (v : Value) (hq : tmps.getD q undef = v) :
    (results fn tmps).run P w = .ok (.tuple #[.agg cs, v]) w := by
  have hp' : tmps[p]?.getD undef = .pointer (some ⟨g, 0, none⟩) := by simpa using hp
  have hq' : tmps[q]?.getD undef = v := by simpa using hq
  simp [results, h, hp', hq', asAddr, run_loadVar_row w g t ty cs fr d hg hu hd hi]
theorem put2_heap {w : World} {g : Nat} {a b : Value} {t : TypeId} (h : w.heap[g]? = some (.cells #[a, b] t (0, 0))) (x y : Value) : ((w.setCell ⟨g, 0, none⟩ x).setCell ⟨g, 1, none⟩ y).heap[g]? = some (.cells #[x, y] t (0, 0)) := by
  rw [heap_setCell_same _ g 1 _ t _ (heap_setCell_same w g 0 _ t _ h)]; rfl
theorem put2_kept {w0 w : World} (k : Kept [] w0 w) (g : Nat) (hg : w0.heap.size ≤ g) (x y : Value) : Kept [] w0 ((w.setCell ⟨g, 0, none⟩ x).setCell ⟨g, 1, none⟩ y) := (k.setCell (Or.inr hg) x).setCell (Or.inr hg) y
theorem put2_kept' (w : World) (g : Nat) (x y : Value) : Kept [g] w ((w.setCell ⟨g, 0, none⟩ x).setCell ⟨g, 1, none⟩ y) := ((Kept.refl [g] w).setCell (Or.inl (by simp)) x).setCell (Or.inl (by simp)) y
theorem Tryz.size_frame : (Tryz.prog.info? 82).map (·.size) = some 2 := by kernel_rfl

set_option maxRecDepth 100000 in
set_option maxHeartbeats 1000000 in
theorem ru32_any (b : Nat) (gv : Value) (p : List Nat) (i e : Nat) (w : World) (h : ReAt w b gv p i e) :
    Calls Tryz.prog 136 #[.pointer (some ⟨b, 0, none⟩)] w fun r w' => r = .returned (.int .u32 ((rNum p i e 4).1 % 4294967296 : Nat)) ∧ ReAt w' b gv p (rNum p i e 4).2.1 (rNum p i e 4).2.2 ∧ Kept [b] w w' := by
  have HR := hide h
  have hlt := ru_lt p i e 4
  obtain ⟨x, hx⟩ : ∃ x, (rNum p i e 4).1 = x := ⟨_, rfl⟩
  rw [hx] at hlt ⊢
  have Hx := hide hx
  clear h hx
  go_enter Tryz.func136, Tryz.ntmps136
  go_wp2_with (go_at_call 148; go_must (refine (rnum_any b gv p i e 4 _ (unhide HR) (by omega)).mono ?_; rintro r w1 ⟨rfl, h1, h2⟩; rw [unhide Hx]; have H1 := hide h1; have H2 := hide h2; clear h1 h2))
  go_ret
  exact ⟨by simp, unhide H1, unhide H2⟩

set_option maxRecDepth 100000 in
set_option maxHeartbeats 1000000 in
theorem ru64_any (b : Nat) (gv : Value) (p : List Nat) (i e : Nat) (w : World) (h : ReAt w b gv p i e) :
    Calls Tryz.prog 137 #[.pointer (some ⟨b, 0, none⟩)] w fun r w' => r = .returned (.int .u64 ((rNum p i e 8).1 : Nat)) ∧ ReAt w' b gv p (rNum p i e 8).2.1 (rNum p i e 8).2.2 ∧ Kept [b] w w' := by
  have HR := hide h
  have hlt := ru_lt p i e 8
  obtain ⟨x, hx⟩ : ∃ x, (rNum p i e 8).1 = x := ⟨_, rfl⟩
  rw [hx] at hlt ⊢
  have Hx := hide hx
  clear h hx
  go_enter Tryz.func137, Tryz.ntmps137
  go_wp2_with (go_at_call 148; go_must (refine (rnum_any b gv p i e 8 _ (unhide HR) (by omega)).mono ?_; rintro r w1 ⟨rfl, h1, h2⟩; rw [unhide Hx]; have H1 := hide h1; have H2 := hide h2; clear h1 h2))
  go_ret
  exact ⟨by simp, unhide H1, unhide H2⟩

theorem rNum_at {p : List Nat} {i n m : Nat} (hm : i + n ≤ m) (hl : m ≤ p.length) : rNum (p.take m) i 0 n = (beL ((p.drop i).take n), i + n, 0) := by
  have e : ((p.take m).drop i).take n = (p.drop i).take n := by rw [List.drop_take, List.take_take, Nat.min_eq_left (by omega)]
  unfold rNum
  rw [if_neg (by simp), if_neg (by rw [List.length_take]; omega), e]
theorem Rd.take0 {w : World} {ao : Option Addr} {cap n : Nat} {p : List Nat} (h : Rd w (.slice ao p.length cap) p) (hn : n ≤ p.length) : Rd w (.slice ao n cap) (p.take n) := by
  obtain ⟨ao', len', cap', he, _, h2, ⟨h3, h3'⟩, h4, h5, h6⟩ := h
  cases he
  refine ⟨_, _, _, rfl, by rw [List.length_take]; omega, by omega, ⟨by omega, by omega⟩, h4, fun x hx => h5 x (List.mem_of_mem_take hx), fun hp => ?_⟩
  obtain ⟨b, off, rfl, hc⟩ := h6 (by omega)
  refine ⟨b, off, rfl, fun i hi => ?_⟩
  rw [hc i (by omega), List.getD_eq_getElem?_getD, List.getD_eq_getElem?_getD, List.getElem?_take, if_pos hi]
theorem Rd.drop17 {w : World} {b off cap : Nat} {p : List Nat} (h : Rd w (.slice (some ⟨b, off, none⟩) p.length cap) p) (n : Nat) (hn : 17 + n ≤ p.length) : Rd w (.slice (some ⟨b, off + 17, none⟩) n (cap - 17)) ((p.drop 17).take n) := by
  obtain ⟨ao', len', cap', he, _, h2, ⟨h3, h3'⟩, h4, h5, h6⟩ := h
  cases he
  refine ⟨_, _, _, rfl, by rw [List.length_take, List.length_drop]; omega, by omega, ⟨by omega, by omega⟩, fun h => by simp at h, fun x hx => h5 x (List.mem_of_mem_drop (List.mem_of_mem_take hx)), fun hp => ?_⟩
  obtain ⟨b', off', e, hc⟩ := h6 (by omega)
  cases e
  refine ⟨b, off + 17, rfl, fun i hi => ?_⟩
  have := hc (17 + i) (by omega)
  rw [Nat.add_assoc, this, List.getD_eq_getElem?_getD, List.getD_eq_getElem?_getD, List.getElem?_take, if_pos hi, List.getElem?_drop]
/-- What first tells. -/
def fstPl (p : List Nat) : Nat := (firstF p).elim 0 (·.1)
def fstPay (p : List Nat) : List Nat := (firstF p).elim [] (·.2)
theorem Tryz.lt_of_beL {p : List Nat} (h : ∀ x ∈ p, x < 256) (i n : Nat) (hn : n ≤ 8) : beL ((p.drop i).take n) < 256 ^ n := by
  have := (f_wide_beL (r := (p.drop i).take n) (fun y hy => h y (List.mem_of_mem_drop (List.mem_of_mem_take hy))) (by rw [List.length_take]; omega)).2
  exact Nat.lt_of_lt_of_le this (Nat.pow_le_pow_right (by omega) (by rw [List.length_take]; omega))
theorem firstF_short {p : List Nat} (h : p.length < 18) : firstF p = none := by
  unfold firstF
  rw [if_neg]
  rintro ⟨_, h1, _, h2, _⟩
  omega

theorem getD_drop0 (p : List Nat) (h : ∀ x ∈ p, x < 256) (hp : 0 < p.length) : beL ((p.drop 0).take 1) = p.getD 0 0 := by
  cases p with
  | nil => simp at hp
  | cons a r =>
    have := h a (by simp)
    simp [beL]
    omega

set_option maxRecDepth 100000 in
set_option maxHeartbeats 1000000 in
theorem clone_any (v : Value) (p : List Nat) (w : World) (h : Rd w v p) (hp : 0 < p.length) :
    Calls Tryz.prog 138 #[v] w fun e w' => ∃ v', e = .returned v' ∧ Rd w' v' p ∧ (∀ x ∈ blk v', w.heap.size ≤ x) ∧ Kept [] w w' := by
  have H := hide h
  obtain ⟨a1, n1, c1, rfl, hn1, hc1, ⟨hc2, hc3⟩, hc4, hc5, hc6⟩ := id h
  subst hn1
  obtain ⟨b, off, rfl, _⟩ := hc6 hp
  clear h hc6 hc5 hc4
  have HO := hide (World.ownsRow_made (base := w.heap.size) (e := 5) (size := 1) w #[] 0 (Nat.le_refl _) (by unfold maxLen; omega) (by simp))
  go_enter Tryz.func138, Tryz.ntmps138
  have hq : ∀ W : World, (binOp .eql 29 (.slice (some ⟨b, off, none⟩) p.length c1) (.slice none 0 0)).run Tryz.prog W = .ok (.bool false) W := by
    intro W
    simp only [binOp]
    simp [run_equal_slice_nil W 29 5 (some ⟨b, off, none⟩) p.length c1 Tryz.underlying29]
  go_wp2_with (at_builtin; refine wpList_appendAll rfl (.tmp 5) (.tmp 6) rfl rfl _ w.heap.size (.slice (some ⟨w.heap.size, 0, none⟩) 0 0) [] p (some ⟨b, off, none⟩) p.length c1 (unhide HO) ((unhide H).old ((Kept.refl [] w).alloc _) (by simp)) (by simp; omega) (by simp) rfl rfl ?_; intro ao1 cap1 w1 HO1 HG1 HA1; simp only [List.nil_append, List.length_nil, Nat.zero_add] at HO1 HA1; have HK1 := hide (((Kept.refl [] w).alloc _).grown (unhide HG1) (by intro k hk; right; simp [Value.ownBlock] at hk; omega)); clear HG1)
  go_ret
  refine ⟨_, rfl, rd_owns (unhide HO1) (unhide H).byte hc3, ?_, unhide HK1⟩
  intro x hx
  cases ao1 with
  | none => simp [blk] at hx
  | some a => simp [blk] at hx; subst hx; exact ((unhide HO1).lt a.block rfl).1

/-- What first's payload is: new memory. -/
def NewP (w w' : World) (v : Value) (bs : List Nat) : Prop := Rd w' v bs ∧ ∀ x ∈ blk v, w.heap.size ≤ x
theorem NewP.nil (w w' : World) : NewP w w' (.slice none 0 0) [] := ⟨Rd.nil _, by simp [blk]⟩

set_option maxRecDepth 100000 in
set_option maxHeartbeats 2000000 in
theorem first_any (v : Value) (p : List Nat) (w : World) (h : Rd w v p) :
    Calls Tryz.prog 110 #[v] w fun e w' => ∃ v', e = .returned (.tuple #[.agg #[.int .u64 (fstPl p), v'], .bool (firstF p).isSome]) ∧ NewP w w' v' (fstPay p) ∧ Kept [] w w' := by
  have H := hide h
  obtain ⟨a1, n1, c1, rfl, hn1, hc1, ⟨hc2, hc3⟩, _, _, hcell⟩ := id h
  subst hn1
  clear h
  by_cases h18 : p.length < 18
  · have h18' : (p.length : Int) < 18 := by omega
    have HF := hide (firstF_short h18)
    have e1 : fstPl p = 0 := by simp [fstPl, unhide HF]
    have e2 : fstPay p = [] := by simp [fstPay, unhide HF]
    rw [e1, e2, unhide HF]
    clear e1 e2 hcell
    go_enter Tryz.func110, Tryz.ntmps110
    go_wp2
    refine bodyPost_ret (v := .tuple #[.agg #[.int .u64 0, .slice none 0 0], .bool false]) ?_ rfl ⟨_, rfl, NewP.nil _ _, (Kept.refl [] w).alloc _⟩
    exact f_results_cell_tmp rfl _ _ w.heap.size _ #[.int .u64 0, .slice none 0 0] (0, 0) _ rfl (heap_alloc_new _ _) Tryz.underlying82 rfl Tryz.size_frame _ rfl
  have h18' : ¬ (p.length : Int) < 18 := by omega
  obtain ⟨bb, off, rfl, hcl⟩ := hcell (by omega)
  have HCL := hide hcl
  clear hcell hcl
  have hb := (unhide H).byte
  have t17 := (unhide H).take0 (n := 17) (by omega)
  have HT := hide t17
  have Hn1 := hide (rNum_at (p := p) (i := 0) (n := 1) (m := 17) (by omega) (by omega))
  have Hn4 := hide (rNum_at (p := p) (i := 1) (n := 4) (m := 17) (by omega) (by omega))
  have Hn8 := hide (rNum_at (p := p) (i := 5) (n := 8) (m := 17) (by omega) (by omega))
  have Hns := hide (rNum_at (p := p) (i := 13) (n := 4) (m := 17) (by omega) (by omega))
  have ln := Tryz.lt_of_beL hb 1 4 (by omega)
  have lpl := Tryz.lt_of_beL hb 5 8 (by omega)
  have ls := Tryz.lt_of_beL hb 13 4 (by omega)
  rw [getD_drop0 p hb (by omega)] at Hn1
  have HFF := hide (rfl : firstF p = firstF p)
  unfold Hid at HFF
  conv at HFF => rhs; unfold firstF
  have lb : p.getD 0 0 < 256 := hb _ (by rw [List.getD_eq_getElem?_getD, List.getElem?_eq_getElem (show 0 < p.length by omega)]; exact List.getElem_mem _)
  obtain ⟨b0, hb0⟩ : ∃ x, p.getD 0 0 = x := ⟨_, rfl⟩
  obtain ⟨n, hn⟩ : ∃ x, beL ((p.drop 1).take 4) = x := ⟨_, rfl⟩
  obtain ⟨pl, hpl⟩ : ∃ x, beL ((p.drop 5).take 8) = x := ⟨_, rfl⟩
  obtain ⟨s, hs⟩ : ∃ x, beL ((p.drop 13).take 4) = x := ⟨_, rfl⟩
  rw [hn] at Hn4 HFF ln
  rw [hpl] at Hn8 HFF lpl
  rw [hs] at Hns HFF ls
  rw [hb0] at Hn1 HFF lb
  have HF := hide HFF
  clear HFF t17 hb0 hn hpl hs hb
  obtain ⟨X, hX⟩ : ∃ x, fstPl p = x := ⟨_, rfl⟩
  obtain ⟨Y, hY⟩ : ∃ x, fstPay p = x := ⟨_, rfl⟩
  obtain ⟨Z, hZ⟩ : ∃ x, (firstF p).isSome = x := ⟨_, rfl⟩
  rw [hX, hY, hZ]
  have HX := hide hX
  have HY := hide hY
  have HZ := hide hZ
  clear hX hY hZ
  go_enter Tryz.func110, Tryz.ntmps110
  have HZ0 := hide (heap_alloc_new w (.cells #[.int .u64 0, .slice none 0 0] 82))
  have HK0 := hide ((Kept.refl [] w).alloc (.cells #[.int .u64 0, .slice none 0 0] 82))
  go_wp2_with fail
  obtain ⟨W, hW⟩ : ∃ W, w.alloc (.cells #[.int .u64 0, .slice none 0 0] 82) = W := ⟨_, rfl⟩
  rw [hW] at HK0 HZ0 ⊢
  clear hW
  refine Calls.mono (newReader_any _ (p.take 17) W ((unhide HT).old (unhide HK0) (by simp))) ?_
  rintro e w1 ⟨b, gv, rfl, hb1, r1, hg1, k1⟩
  have HR1 := hide r1
  have HK1 := hide k1
  have Hb := hide hb1
  clear r1 k1 hg1 hb1
  go_wp2_with fail
  refine Calls.mono (ru8_any b gv (p.take 17) 0 0 w1 (unhide HR1)) ?_
  rintro e w2 ⟨rfl, r2, k2⟩
  rw [unhide Hn1] at r2 ⊢
  rw [show (b0, 0 + 1, 0).1 % 256 = b0 from Nat.mod_eq_of_lt lb]
  have HR2 := hide r2
  have HK2 := hide (((unhide HK1).trans k2 (by have := unhide Hb; simp; omega)))
  clear r2 k2 HR1 HK1
  go_wp2_with fail
  refine Calls.mono (ru32_any b gv (p.take 17) 1 0 w2 (unhide HR2)) ?_
  rintro e w3 ⟨rfl, r3, k3⟩
  rw [unhide Hn4] at r3 ⊢
  rw [show (n, 1 + 4, 0).1 % 4294967296 = n from Nat.mod_eq_of_lt ln]
  have HR3 := hide r3
  have HK3 := hide (((unhide HK2).trans k3 (by have := unhide Hb; simp; omega)))
  clear r3 k3 HR2 HK2
  go_wp2_with fail
  refine Calls.mono (ru64_any b gv (p.take 17) 5 0 w3 (unhide HR3)) ?_
  rintro e w4 ⟨rfl, r4, k4⟩
  rw [unhide Hn8] at r4 ⊢
  have HR4 := hide r4
  have HK4 := hide (((unhide HK3).trans k4 (by have := unhide Hb; simp; omega)))
  clear r4 k4 HR3 HK3
  go_wp2_with fail
  refine Calls.mono (ru32_any b gv (p.take 17) 13 0 w4 (unhide HR4)) ?_
  rintro e w5 ⟨rfl, r5, k5⟩
  rw [unhide Hns]
  rw [show (s, 13 + 4, 0).1 % 4294967296 = s from Nat.mod_eq_of_lt ls]
  have HK5 := hide (((unhide HK4).trans k5 (by have := unhide Hb; simp; omega)))
  clear r5 k5 HR4 HK4
  simp only
  have HZ5 := hide ((unhide HK5).heap (unhide HZ0) (by simp))
  have HKW := hide ((unhide HK0).trans (unhide HK5) (by simp))
  have HNO := hide (fun (h : firstF p = none) => by
    rw [← unhide HX, ← unhide HY, ← unhide HZ]
    exact ⟨by simp [fstPl, h], by simp [fstPay, h], by rw [h]; rfl⟩ : firstF p = none → X = 0 ∧ Y = [] ∧ Z = false)
  have HQ0 := hide (put2_heap (unhide HZ5) (.int .u64 0) (.slice none 0 0))
  have HKQ := hide (put2_kept (unhide HKW) w.heap.size (Nat.le_refl _) (.int .u64 0) (.slice none 0 0))
  have d0 : w5.cell? ⟨w.heap.size, 0, none⟩ = some (.int .u64 0) := by rw [cell_of_row _ _ _ _ _ _ (unhide HZ5)]; rfl
  have d1 : w5.cell? ⟨w.heap.size, 1, none⟩ = some (.slice none 0 0) := by rw [cell_of_row _ _ _ _ _ _ (unhide HZ5)]; rfl
  have f0 : w5.frozen? ⟨w.heap.size, 0, none⟩ = false := frozen_of_row _ _ _ _ _ (unhide HZ5)
  have f1 : w5.frozen? ⟨w.heap.size, 1, none⟩ = false := frozen_of_row _ _ _ _ _ (unhide HZ5)
  by_cases hA0 : b0 = 245
  · subst hA0
    by_cases hA1 : n = 0
    · have HFn := hide (unhide HNO (by rw [unhide HF, if_neg]; rintro ⟨_, h, _⟩; omega))
      subst hA1
      go_wp2
      refine bodyPost_ret (v := .tuple #[.agg #[.int .u64 0, .slice none 0 0], .bool false]) ?_ rfl ⟨_, by rw [(unhide HFn).1, (unhide HFn).2.2]; rfl, by rw [(unhide HFn).2.1]; exact NewP.nil _ _, unhide HKQ⟩
      exact f_results_cell_tmp rfl _ _ w.heap.size _ #[.int .u64 0, .slice none 0 0] (0, 0) _ rfl (unhide HQ0) Tryz.underlying82 rfl Tryz.size_frame _ rfl
    have hA1' : ((n : Int) == 0) = false := by rw [beq_eq_false_iff_ne]; omega
    by_cases hA2 : 65535 < n
    · have HFn := hide (unhide HNO (by rw [unhide HF, if_neg]; rintro ⟨_, _, h, _⟩; omega))
      have hA2' : (65535 : Int) < n := by omega
      go_wp2
      refine bodyPost_ret (v := .tuple #[.agg #[.int .u64 0, .slice none 0 0], .bool false]) ?_ rfl ⟨_, by rw [(unhide HFn).1, (unhide HFn).2.2]; rfl, by rw [(unhide HFn).2.1]; exact NewP.nil _ _, unhide HKQ⟩
      exact f_results_cell_tmp rfl _ _ w.heap.size _ #[.int .u64 0, .slice none 0 0] (0, 0) _ rfl (unhide HQ0) Tryz.underlying82 rfl Tryz.size_frame _ rfl
    have hA2' : ¬ (65535 : Int) < n := by omega
    by_cases hB : 17 + n < p.length
    · have hB' : (17 : Int) + n < p.length := by omega
      have hB2 : ¬ (p.length : Int) ≤ 17 + n := by omega
      have cE := (unhide HKW).cell (unhide HCL (17 + n) hB) (by simp)
      obtain ⟨pe, hpe⟩ : ∃ x, p.getD (17 + n) 0 = x := ⟨_, rfl⟩
      rw [hpe] at cE HF
      clear hpe
      by_cases hE : pe = 95
      · subst hE
        have HPD := hide (((unhide H).drop17 n (by omega)).old (unhide HKW) (by simp))
        go_wp2_with fail
        refine Calls.mono (sumOf_any pl _ ((p.drop 17).take n) w5 (unhide HPD) lpl (by rw [List.length_take]; omega)) ?_
        rintro e w6 ⟨rfl, k6⟩
        have HZ6 := hide (k6.heap (unhide HZ5) (by simp))
        have HKW6 := hide ((unhide HKW).trans k6 (by simp))
        have HPD6 := hide ((unhide HPD).old k6 (by simp))
        have HQ6 := hide (put2_heap (unhide HZ6) (.int .u64 0) (.slice none 0 0))
        have HKQ6 := hide (put2_kept (unhide HKW6) w.heap.size (Nat.le_refl _) (.int .u64 0) (.slice none 0 0))
        clear k6 d0 d1 f0 f1
        have d0 : w6.cell? ⟨w.heap.size, 0, none⟩ = some (.int .u64 0) := by rw [cell_of_row _ _ _ _ _ _ (unhide HZ6)]; rfl
        have d1 : w6.cell? ⟨w.heap.size, 1, none⟩ = some (.slice none 0 0) := by rw [cell_of_row _ _ _ _ _ _ (unhide HZ6)]; rfl
        have f0 : w6.frozen? ⟨w.heap.size, 0, none⟩ = false := frozen_of_row _ _ _ _ _ (unhide HZ6)
        have f1 : w6.frozen? ⟨w.heap.size, 1, none⟩ = false := frozen_of_row _ _ _ _ _ (unhide HZ6)
        obtain ⟨q, hq⟩ : ∃ q, (p.drop 17).take n = q := ⟨_, rfl⟩
        have hql : q.length = n := by rw [← hq, List.length_take, List.length_drop]; omega
        rw [hq] at HPD6 HF ⊢
        clear hq
        obtain ⟨t, ht⟩ : ∃ t, sumF pl q = t := ⟨_, rfl⟩
        rw [ht] at HF ⊢
        clear ht
        by_cases hS : t = s
        · subst hS
          have HFs := hide (by rw [unhide HF, if_pos (by simp; omega)] : firstF p = some (pl, q))
          have HV := hide (by
            rw [← unhide HX, ← unhide HY, ← unhide HZ]
            exact ⟨by simp [fstPl, unhide HFs], by simp [fstPay, unhide HFs], by rw [unhide HFs]; rfl⟩ : X = pl ∧ Y = q ∧ Z = true)
          go_wp2_with fail
          refine Calls.mono (clone_any _ q w6 (unhide HPD6) (by omega)) ?_
          rintro e w7 ⟨v7, rfl, r7, b7, k7⟩
          obtain ⟨a7, n7, c7, hv7, _⟩ := id r7
          have HZ7 := hide (k7.heap (unhide HZ6) (by simp))
          have HQ7 := hide (put2_heap (unhide HZ7) (.int .u64 pl) v7)
          have HK7 := hide ((unhide HKW6).trans k7 (by simp))
          have hlt6 : w.heap.size < w6.heap.size := lt_of_block (unhide HZ6)
          have HN7 := hide (⟨r7.kept (put2_kept' w7 w.heap.size (.int .u64 pl) v7) (by intro x hx; have := b7 x hx; simp; omega), fun x hx => by have := b7 x hx; omega⟩ : NewP w _ v7 q)
          have HKQ7 := hide (put2_kept (unhide HK7) w.heap.size (Nat.le_refl _) (.int .u64 pl) v7)
          clear k7 d0 d1 f0 f1 r7 b7
          subst hv7
          have d0 : w7.cell? ⟨w.heap.size, 0, none⟩ = some (.int .u64 0) := by rw [cell_of_row _ _ _ _ _ _ (unhide HZ7)]; rfl
          have d1 : w7.cell? ⟨w.heap.size, 1, none⟩ = some (.slice none 0 0) := by rw [cell_of_row _ _ _ _ _ _ (unhide HZ7)]; rfl
          have f0 : w7.frozen? ⟨w.heap.size, 0, none⟩ = false := frozen_of_row _ _ _ _ _ (unhide HZ7)
          have f1 : w7.frozen? ⟨w.heap.size, 1, none⟩ = false := frozen_of_row _ _ _ _ _ (unhide HZ7)
          go_wp2
          refine bodyPost_ret (v := .tuple #[.agg #[.int .u64 pl, .slice a7 n7 c7], .bool true]) ?_ rfl ⟨.slice a7 n7 c7, by rw [(unhide HV).1, (unhide HV).2.2], by rw [(unhide HV).2.1]; exact unhide HN7, unhide HKQ7⟩
          exact f_results_cell_tmp rfl _ _ w.heap.size _ #[.int .u64 pl, .slice a7 n7 c7] (0, 0) _ rfl (unhide HQ7) Tryz.underlying82 rfl Tryz.size_frame _ rfl
        · have hS' : ((t : Int) != s) = true := by rw [bne_iff_ne]; omega
          have HFn := hide (unhide HNO (by rw [unhide HF, if_neg]; rintro ⟨_, _, _, _, _, h⟩; exact hS h))
          go_wp2
          refine bodyPost_ret (v := .tuple #[.agg #[.int .u64 0, .slice none 0 0], .bool false]) ?_ rfl ⟨_, by rw [(unhide HFn).1, (unhide HFn).2.2]; rfl, by rw [(unhide HFn).2.1]; exact NewP.nil _ _, unhide HKQ6⟩
          exact f_results_cell_tmp rfl _ _ w.heap.size _ #[.int .u64 0, .slice none 0 0] (0, 0) _ rfl (unhide HQ6) Tryz.underlying82 rfl Tryz.size_frame _ rfl
      · have hE' : ((pe : Int) != 95) = true := by rw [bne_iff_ne]; omega
        have HFn := hide (unhide HNO (by rw [unhide HF, if_neg]; rintro ⟨_, _, _, _, h, _⟩; exact hE h))
        go_wp2
        refine bodyPost_ret (v := .tuple #[.agg #[.int .u64 0, .slice none 0 0], .bool false]) ?_ rfl ⟨_, by rw [(unhide HFn).1, (unhide HFn).2.2]; rfl, by rw [(unhide HFn).2.1]; exact NewP.nil _ _, unhide HKQ⟩
        exact f_results_cell_tmp rfl _ _ w.heap.size _ #[.int .u64 0, .slice none 0 0] (0, 0) _ rfl (unhide HQ0) Tryz.underlying82 rfl Tryz.size_frame _ rfl
    · have hB' : (p.length : Int) ≤ 17 + n := by omega
      have HFn := hide (unhide HNO (by rw [unhide HF, if_neg]; rintro ⟨_, _, _, h, _⟩; exact hB h))
      go_wp2
      refine bodyPost_ret (v := .tuple #[.agg #[.int .u64 0, .slice none 0 0], .bool false]) ?_ rfl ⟨_, by rw [(unhide HFn).1, (unhide HFn).2.2]; rfl, by rw [(unhide HFn).2.1]; exact NewP.nil _ _, unhide HKQ⟩
      exact f_results_cell_tmp rfl _ _ w.heap.size _ #[.int .u64 0, .slice none 0 0] (0, 0) _ rfl (unhide HQ0) Tryz.underlying82 rfl Tryz.size_frame _ rfl
  · have hA0' : ((b0 : Int) != 245) = true := by rw [bne_iff_ne]; omega
    have HFn := hide (unhide HNO (by rw [unhide HF, if_neg]; rintro ⟨h, _⟩; exact hA0 h))
    go_wp2
    refine bodyPost_ret (v := .tuple #[.agg #[.int .u64 0, .slice none 0 0], .bool false]) ?_ rfl ⟨_, by rw [(unhide HFn).1, (unhide HFn).2.2]; rfl, by rw [(unhide HFn).2.1]; exact NewP.nil _ _, unhide HKQ⟩
    exact f_results_cell_tmp rfl _ _ w.heap.size _ #[.int .u64 0, .slice none 0 0] (0, 0) _ rfl (unhide HQ0) Tryz.underlying82 rfl Tryz.size_frame _ rfl
end Go.Proofs.YtckkalmhekfnhabGreatDoor
namespace Go.Proofs.YtckkalmhekfnhabGreatDoor
open Go.RowKit Go.BigFrame
set_option linter.unusedVariables false
set_option linter.unusedSimpArgs false

theorem results_cell_tmp2 {P : Program} {fn : Func} {p q r : Tmp} {ty : TypeId} (h : fn.results = #[.cell p ty, .tmp q, .tmp r]) (tmps : Array Value) (w : World) (g : Nat) (t : TypeId) (cs : Array Value) (fr : Nat × Nat) (d : TypeDesc)
    (hp : tmps.getD p undef = .pointer (some ⟨g, 0, none⟩)) (hg : w.heap[g]? = some (.cells cs t fr))
    (hu : P.underlying ty = some d) (hd : (match d with | .struct _ | .array _ _ => true | _ => false) = true) (hi : (P.info? ty).map (·.size) = some cs.size) (v u : Value) (hq : tmps.getD q undef = v) (hr : tmps.getD r undef = u) :
    (results fn tmps).run P w = .ok (.tuple #[.agg cs, v, u]) w := by
  have hp' : tmps[p]?.getD undef = .pointer (some ⟨g, 0, none⟩) := by simpa using hp
  have hq' : tmps[q]?.getD undef = v := by simpa using hq
  have hr' : tmps[r]?.getD undef = u := by simpa using hr
  simp [results, h, hp', hq', hr', asAddr, run_loadVar_row w g t ty cs fr d hg hu hd hi]

/-- What stands in p at the place z: place, payload, the place behind it, the kind. -/
structure NxR where
  pl : Nat
  pay : List Nat
  next : Int
  kind : Nat
def nextF (p : List Nat) (z : Int) : NxR :=
  if z = p.length then ⟨0, [], z, 0⟩ else if z < 0 ∨ (p.length : Int) < z then ⟨0, [], z, 2⟩ else
  match firstF (p.drop z.toNat) with
  | none => ⟨0, [], z, 2⟩
  | some x => ⟨x.1, x.2, z + 18 + x.2.length, 1⟩
theorem Rd.dropN {w : World} {b off cap : Nat} {p : List Nat} (h : Rd w (.slice (some ⟨b, off, none⟩) p.length cap) p) (n : Nat) (hn : n ≤ p.length) : Rd w (.slice (some ⟨b, off + n, none⟩) (p.length - n) (cap - n)) (p.drop n) := by
  obtain ⟨ao', len', cap', he, _, h2, ⟨h3, h3'⟩, h4, h5, h6⟩ := h
  cases he
  refine ⟨_, _, _, rfl, by rw [List.length_drop], by omega, ⟨by omega, by omega⟩, fun h => by simp at h, fun x hx => h5 x (List.mem_of_mem_drop hx), fun hp => ?_⟩
  obtain ⟨b', off', e, hc⟩ := h6 (by omega)
  cases e
  refine ⟨b, off + n, rfl, fun i hi => ?_⟩
  have := hc (n + i) (by omega)
  rw [Nat.add_assoc, this, List.getD_eq_getElem?_getD, List.getD_eq_getElem?_getD, List.getElem?_drop]

set_option maxRecDepth 100000 in
set_option maxHeartbeats 2000000 in
theorem next_any (v : Value) (p : List Nat) (z : Int) (w : World) (h : Rd w v p) (hz : -9223372036854775808 ≤ z ∧ z ≤ 9223372036854775807) :
    Calls Tryz.prog 69 #[v, .int .i64 z] w fun e w' => ∃ v', e = .returned (.tuple #[.agg #[.int .u64 (nextF p z).pl, v'], .int .i64 (nextF p z).next, .int .i64 (nextF p z).kind]) ∧ NewP w w' v' (nextF p z).pay ∧ Kept [] w w' := by
  have H := hide h
  obtain ⟨a1, n1, c1, rfl, hn1, hc1, ⟨hc2, hc3⟩, _, _, hcell⟩ := id h
  subst hn1
  clear h
  have HZ0 := hide (heap_alloc_new w (.cells #[.int .u64 0, .slice none 0 0] 82))
  have HK0 := hide ((Kept.refl [] w).alloc (.cells #[.int .u64 0, .slice none 0 0] 82))
  have HQ0 := hide (put2_heap (unhide HZ0) (.int .u64 0) (.slice none 0 0))
  have HKQ := hide (put2_kept (unhide HK0) w.heap.size (Nat.le_refl _) (.int .u64 0) (.slice none 0 0))
  by_cases h1 : z = p.length
  · have hN : nextF p z = ⟨0, [], z, 0⟩ := by unfold nextF; rw [if_pos h1]
    rw [hN]
    clear hN hcell
    subst h1
    go_enter Tryz.func69, Tryz.ntmps69
    go_wp2
    refine bodyPost_ret (v := .tuple #[.agg #[.int .u64 0, .slice none 0 0], .int .i64 p.length, .int .i64 0]) ?_ rfl ⟨_, rfl, NewP.nil _ _, unhide HK0⟩
    exact results_cell_tmp2 rfl _ _ w.heap.size _ #[.int .u64 0, .slice none 0 0] (0, 0) _ rfl (unhide HZ0) Tryz.underlying82 rfl Tryz.size_frame _ _ rfl rfl
  have h1' : (z == (p.length : Int)) = false := by rw [beq_eq_false_iff_ne]; exact h1
  by_cases h2 : z < 0
  · have hN : nextF p z = ⟨0, [], z, 2⟩ := by unfold nextF; rw [if_neg h1, if_pos (Or.inl h2)]
    rw [hN]
    clear hN hcell
    go_enter Tryz.func69, Tryz.ntmps69
    go_wp2
    refine bodyPost_ret (v := .tuple #[.agg #[.int .u64 0, .slice none 0 0], .int .i64 z, .int .i64 2]) ?_ rfl ⟨_, rfl, NewP.nil _ _, unhide HK0⟩
    exact results_cell_tmp2 rfl _ _ w.heap.size _ #[.int .u64 0, .slice none 0 0] (0, 0) _ rfl (unhide HZ0) Tryz.underlying82 rfl Tryz.size_frame _ _ rfl rfl
  by_cases h3 : (p.length : Int) < z
  · have hN : nextF p z = ⟨0, [], z, 2⟩ := by unfold nextF; rw [if_neg h1, if_pos (Or.inr h3)]
    rw [hN]
    clear hN hcell
    go_enter Tryz.func69, Tryz.ntmps69
    go_wp2
    refine bodyPost_ret (v := .tuple #[.agg #[.int .u64 0, .slice none 0 0], .int .i64 z, .int .i64 2]) ?_ rfl ⟨_, rfl, NewP.nil _ _, unhide HK0⟩
    exact results_cell_tmp2 rfl _ _ w.heap.size _ #[.int .u64 0, .slice none 0 0] (0, 0) _ rfl (unhide HZ0) Tryz.underlying82 rfl Tryz.size_frame _ _ rfl rfl
  obtain ⟨n, rfl⟩ : ∃ n : Nat, z = n := ⟨z.toNat, by omega⟩
  have hn : n < p.length := by omega
  obtain ⟨bb, off, rfl, hcl⟩ := hcell (by omega)
  clear hcell hcl
  have HD := hide ((unhide H).dropN n (by omega))
  have HNF := hide (by unfold nextF; rw [if_neg h1, if_neg (by omega), Int.toNat_natCast] : nextF p n = match firstF (p.drop n) with
    | none => ⟨0, [], n, 2⟩
    | some x => ⟨x.1, x.2, (n : Int) + 18 + x.2.length, 1⟩)
  cases hf : firstF (p.drop n) with
  | none =>
    rw [hf] at HNF
    rw [unhide HNF]
    have HF := hide hf
    clear hf
    have h3' : ¬ (p.length : Int) < n := by omega
    go_enter Tryz.func69, Tryz.ntmps69
    go_wp2_with fail
    refine Calls.mono (first_any _ (p.drop n) _ ((unhide HD).old (unhide HK0) (by simp))) ?_
    rintro e w1 ⟨v1, rfl, n1, k1⟩
    rw [unhide HF]
    have HZ1 := hide (k1.heap (unhide HZ0) (by simp))
    have HK1 := hide ((unhide HK0).trans k1 (by simp))
    obtain ⟨a2, n2, c2, hv1, _⟩ := id n1.1
    subst hv1
    clear k1 n1
    have k2 := (Kept.refl [] w1).alloc (.cells #[.int .u64 (fstPl (p.drop n) : Int), .slice a2 n2 c2] 82)
    have HZ2 := hide (k2.heap (unhide HZ1) (by simp))
    have HK2 := hide ((unhide HK1).alloc (.cells #[.int .u64 (fstPl (p.drop n) : Int), .slice a2 n2 c2] 82))
    have d0 : (w1.alloc (.cells #[.int .u64 (fstPl (p.drop n) : Int), .slice a2 n2 c2] 82)).cell? ⟨w.heap.size, 0, none⟩ = some (.int .u64 0) := by rw [cell_of_row _ _ _ _ _ _ (unhide HZ2)]; rfl
    have d1 : (w1.alloc (.cells #[.int .u64 (fstPl (p.drop n) : Int), .slice a2 n2 c2] 82)).cell? ⟨w.heap.size, 1, none⟩ = some (.slice none 0 0) := by rw [cell_of_row _ _ _ _ _ _ (unhide HZ2)]; rfl
    have f0 : (w1.alloc (.cells #[.int .u64 (fstPl (p.drop n) : Int), .slice a2 n2 c2] 82)).frozen? ⟨w.heap.size, 0, none⟩ = false := frozen_of_row _ _ _ _ _ (unhide HZ2)
    have f1 : (w1.alloc (.cells #[.int .u64 (fstPl (p.drop n) : Int), .slice a2 n2 c2] 82)).frozen? ⟨w.heap.size, 1, none⟩ = false := frozen_of_row _ _ _ _ _ (unhide HZ2)
    clear k2
    go_wp2
    refine bodyPost_ret (v := .tuple #[.agg #[.int .u64 0, .slice none 0 0], .int .i64 n, .int .i64 2]) ?_ rfl ⟨_, rfl, NewP.nil _ _, put2_kept (unhide HK2) w.heap.size (Nat.le_refl _) (.int .u64 0) (.slice none 0 0)⟩
    exact results_cell_tmp2 rfl _ _ w.heap.size _ #[.int .u64 0, .slice none 0 0] (0, 0) _ rfl (put2_heap (unhide HZ2) (.int .u64 0) (.slice none 0 0)) Tryz.underlying82 rfl Tryz.size_frame _ _ rfl rfl
  | some x =>
    obtain ⟨pl, pay⟩ := x
    rw [hf] at HNF
    rw [unhide HNF]
    have hfm := firstF_form hf (fun x hx => (unhide H).byte x (List.mem_of_mem_drop hx))
    have hlen : n + 18 + pay.length ≤ p.length := by
      have := congrArg List.length hfm.2.2.2.2
      rw [List.length_append, frB_len, List.length_drop] at this
      omega
    have HF := hide hf
    have e1 : fstPl (p.drop n) = pl := by simp [fstPl, hf]
    have e2 : fstPay (p.drop n) = pay := by simp [fstPay, hf]
    clear hf
    have h3' : ¬ (p.length : Int) < n := by omega
    go_enter Tryz.func69, Tryz.ntmps69
    go_wp2_with fail
    refine Calls.mono (first_any _ (p.drop n) _ ((unhide HD).old (unhide HK0) (by simp))) ?_
    rintro e w1 ⟨v1, rfl, n1, k1⟩
    rw [e2] at n1
    rw [unhide HF, e1]
    have HZ1 := hide (k1.heap (unhide HZ0) (by simp))
    have HK1 := hide ((unhide HK0).trans k1 (by simp))
    have HN1 := hide n1
    obtain ⟨a2, n2, c2, hv1, hn2, _⟩ := id n1.1
    subst hv1
    subst hn2
    clear k1 n1 e1 e2 hfm
    have k2 := (Kept.refl [] w1).alloc (.cells #[.int .u64 (pl : Int), .slice a2 pay.length c2] 82)
    have HZ2 := hide (k2.heap (unhide HZ1) (by simp))
    have HK2 := hide ((unhide HK1).alloc (.cells #[.int .u64 (pl : Int), .slice a2 pay.length c2] 82))
    have d0 : (w1.alloc (.cells #[.int .u64 (pl : Int), .slice a2 pay.length c2] 82)).cell? ⟨w.heap.size, 0, none⟩ = some (.int .u64 0) := by rw [cell_of_row _ _ _ _ _ _ (unhide HZ2)]; rfl
    have d1 : (w1.alloc (.cells #[.int .u64 (pl : Int), .slice a2 pay.length c2] 82)).cell? ⟨w.heap.size, 1, none⟩ = some (.slice none 0 0) := by rw [cell_of_row _ _ _ _ _ _ (unhide HZ2)]; rfl
    have f0 : (w1.alloc (.cells #[.int .u64 (pl : Int), .slice a2 pay.length c2] 82)).frozen? ⟨w.heap.size, 0, none⟩ = false := frozen_of_row _ _ _ _ _ (unhide HZ2)
    have f1 : (w1.alloc (.cells #[.int .u64 (pl : Int), .slice a2 pay.length c2] 82)).frozen? ⟨w.heap.size, 1, none⟩ = false := frozen_of_row _ _ _ _ _ (unhide HZ2)
    clear k2
    go_wp2
    obtain ⟨W, hW⟩ : ∃ W, w1.alloc (.cells #[.int .u64 (pl : Int), .slice a2 pay.length c2] 82) = W := ⟨_, rfl⟩
    have HC := hide (heap_alloc_new w1 (.cells #[.int .u64 (pl : Int), .slice a2 pay.length c2] 82))
    have hlt1 : w.heap.size < w1.heap.size := lt_of_block (unhide HZ1)
    have HNW := hide ((unhide HN1).1.old ((Kept.refl [] w1).alloc (.cells #[.int .u64 (pl : Int), .slice a2 pay.length c2] 82)) (by simp))
    rw [hW] at HC d0 d1 f0 f1 HZ2 HK2 HNW ⊢
    clear hW
    have e0 : W.cell? ⟨w1.heap.size, 0, none⟩ = some (.int .u64 pl) := by rw [cell_of_row _ _ _ _ _ _ (unhide HC)]; rfl
    have e1 : W.cell? ⟨w1.heap.size, 1, none⟩ = some (.slice a2 pay.length c2) := by rw [cell_of_row _ _ _ _ _ _ (unhide HC)]; rfl
    have hne : w.heap.size ≠ w1.heap.size := by omega
    have HB1 := hide (fun x hx => by have h9 := (unhide HN1).2 x hx; have h8 : (w.alloc (.cells #[.int .u64 0, .slice none 0 0] 82)).heap.size = w.heap.size + 1 := by simp
                                     omega : ∀ x ∈ blk (.slice a2 pay.length c2), w.heap.size + 1 ≤ x)
    have HRQ := hide ((unhide HNW).kept (put2_kept' W w.heap.size (.int .u64 pl) (.slice a2 pay.length c2)) (by
      intro x hx hm
      have h9 := unhide HB1 x hx
      have h8 : x = w.heap.size := by simpa using hm
      omega))
    go_region_held3 (fun w' => w'.cell? ⟨w1.heap.size, 0, none⟩ = some (.int .u64 pl) ∧ w'.cell? ⟨w1.heap.size, 1, none⟩ = some (.slice a2 pay.length c2)) (go_keep) (fail)
    have hww : IntKind.i64.wrap (IntKind.i64.wrap ((n : Int) + 18) + pay.length) = (n : Int) + 18 + pay.length := by rw [IntKind.wrap_i64, IntKind.wrap_i64]; omega
    all_goals go_wp2
    all_goals
      refine bodyPost_ret (v := .tuple #[.agg #[.int .u64 pl, .slice a2 pay.length c2], .int .i64 ((n : Int) + 18 + pay.length), .int .i64 1]) ?_ rfl ⟨.slice a2 pay.length c2, rfl, ⟨unhide HRQ, fun x hx => by have h9 := unhide HB1 x hx; omega⟩, (put2_kept (unhide HK2) w.heap.size (Nat.le_refl _) (.int .u64 pl) (.slice a2 pay.length c2)).drew⟩
      refine results_cell_tmp2 rfl _ _ w.heap.size 82 #[.int .u64 pl, .slice a2 pay.length c2] (0, 0) _ rfl (by exact put2_heap (unhide HZ2) (.int .u64 pl) (.slice a2 pay.length c2)) Tryz.underlying82 rfl Tryz.size_frame _ _ ?_ rfl
      simp [hww]
end Go.Proofs.YtckkalmhekfnhabGreatDoor
