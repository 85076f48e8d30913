/-
  Plain reckoning: the check sum as a map that goes with xor. No program, no model.
-/
import Derived.Laws.BitsAllLaws
namespace Go.Proofs.YtejchncdimcdbaaGreatDoor
set_option linter.unusedVariables false

theorem xlt {a b : Nat} (ha : a < 4294967296) (hb : b < 4294967296) : a ^^^ b < 4294967296 := Nat.xor_lt_two_pow (n := 32) ha hb
/-- One turn; the word's eight turns. -/
def tn (c : Nat) : Nat := c / 2 ^^^ c % 2 * 2197175160
def zz (c : Nat) : Nat := tn (tn (tn (tn (tn (tn (tn (tn c)))))))
def it (f : Nat → Nat) : Nat → Nat → Nat
  | 0, a => a
  | n + 1, a => it f n (f a)
theorem tn_lt {c : Nat} (h : c < 4294967296) : tn c < 4294967296 := by
  unfold tn
  refine xlt (by omega) ?_
  rcases Nat.mod_two_eq_zero_or_one c with h | h <;> rw [h] <;> decide
theorem zz_lt {c : Nat} (h : c < 4294967296) : zz c < 4294967296 := by unfold zz; exact tn_lt (tn_lt (tn_lt (tn_lt (tn_lt (tn_lt (tn_lt (tn_lt h)))))))
theorem it_succ (f : Nat → Nat) (n a : Nat) : it f (n + 1) a = f (it f n a) := by
  induction n generalizing a with
  | zero => rfl
  | succ n ih => exact ih (f a)
/-- The register for bytes p from x. -/
def reg (x : Nat) : List Nat → Nat
  | [] => x
  | v :: p => reg (zz (x ^^^ v)) p
/-- The bytes as one number, the first the lowest. -/
def le : List Nat → Nat
  | [] => 0
  | v :: p => v ^^^ le p * 256
theorem reg_append (p q : List Nat) : ∀ x, reg x (p ++ q) = reg (reg x p) q := by
  induction p with
  | nil => intro x; rfl
  | cons v p ih => intro x; exact ih _
theorem reg_lt (p : List Nat) : ∀ x, x < 4294967296 → (∀ v ∈ p, v < 256) → reg x p < 4294967296 := by
  induction p with
  | nil => intro x h _; exact h
  | cons v p ih =>
    intro x h hp
    have := hp v (by simp)
    exact ih _ (zz_lt (xlt h (by omega))) (fun u hu => hp u (by simp [hu]))
/-- The sum of what had the sum c, with p behind it. -/
def upd (c : Nat) (p : List Nat) : Nat := reg (c ^^^ 4294967295) p ^^^ 4294967295
theorem upd_lt {c : Nat} {p : List Nat} (h : c < 4294967296) (hp : ∀ v ∈ p, v < 256) : upd c p < 4294967296 := xlt (reg_lt p _ (xlt h (by decide)) hp) (by decide)
theorem upd_append (c : Nat) (p q : List Nat) : upd c (p ++ q) = upd (upd c p) q := by
  unfold upd; rw [reg_append]; congr 2; rw [Nat.xor_assoc, Nat.xor_self, Nat.xor_zero]
end Go.Proofs.YtejchncdimcdbaaGreatDoor
