import Derived.Test.YtjbmafjnbncbpaaRe
namespace Go.Proofs.Ytjbmafjnbncbpaa
open Go.RowKit
set_option linter.unusedVariables false
set_option linter.unusedSimpArgs false

/-- The number in groups of seven bits with which a list begins, and how many bytes it has (0: none). -/
def fuv : List Nat → Nat → Nat → Nat × Nat
  | [], _, _ => (0, 0)
  | c :: r, i, a => if i = 9 ∧ c ≠ 1 then (0, 0) else if 128 ≤ c then fuv r (i + 1) (a + c % 128 * 128 ^ i) else if c = 0 ∧ 0 < i then (0, 0) else (a + c % 128 * 128 ^ i, i + 1)

theorem drop_cons {p : List Nat} {k : Nat} (h : k < p.length) : p.drop k = p.getD k 0 :: p.drop (k + 1) := by
  rw [List.drop_eq_getElem_cons h, List.getD_eq_getElem?_getD, List.getElem?_eq_getElem h]; rfl

/-- The group's bits over those that were there. -/
theorem group_lt (k c : Nat) (hk : k ≤ 9) (h9 : k = 9 → c = 1) : c % 128 * 128 ^ k < 18446744073709551616 := by
  rcases Nat.lt_or_ge k 9 with h | h
  · have h1 : 128 ^ k ≤ 128 ^ 8 := Nat.pow_le_pow_right (by omega) (by omega)
    have h2 : c % 128 < 128 := Nat.mod_lt _ (by omega)
    calc c % 128 * 128 ^ k ≤ 127 * 128 ^ 8 := Nat.mul_le_mul (by omega) h1
      _ < 18446744073709551616 := by decide
  · have : k = 9 := by omega
    subst this; rw [h9 rfl]; decide
theorem group_or (k c a : Nat) (hk : k ≤ 9) (h9 : k = 9 → c = 1) (ha : a < 128 ^ k) : bits .or .u64 (a : Int) ((c % 128 * 128 ^ k : Nat) : Int) = ((a + c % 128 * 128 ^ k : Nat) : Int) := by
  have h1 := group_lt k c hk h9
  have h2 : 128 ^ k ≤ 128 ^ 9 := Nat.pow_le_pow_right (by omega) hk
  rw [u64_or_nat a _ (by have h3 : (128 : Nat) ^ 9 = 9223372036854775808 := (by decide); omega) h1, Nat.or_comm, nat_join (7 * k) _ a (by rw [Nat.pow_mul]; exact Nat.mul_mod_left _ _) (by rw [Nat.pow_mul]; exact ha), Nat.add_comm]
theorem group_val (k c a : Nat) (hk : k ≤ 9) (h9 : k = 9 → c = 1) (ha : a < 128 ^ k) : bits .or .u64 (a : Int) (IntKind.u64.wrap ((c : Int) % 128 * 2 ^ (7 * k))) = ((a + c % 128 * 128 ^ k : Nat) : Int) := by
  have e2 : ((c : Int) % 128) * 2 ^ (7 * k) = ((c % 128 * 128 ^ k : Nat) : Int) := by rw [Int.natCast_mul, Int.pow_mul]; simp
  have h1 := group_lt k c hk h9
  rw [IntKind.wrap_u64, e2, ← group_or k c a hk h9 ha]
  congr 1; omega
theorem group_next (k c a : Nat) (ha : a < 128 ^ k) : a + c % 128 * 128 ^ k < 128 ^ (k + 1) := by
  have h2 : c % 128 < 128 := Nat.mod_lt _ (by omega)
  have h3 : c % 128 * 128 ^ k ≤ 127 * 128 ^ k := Nat.mul_le_mul (by omega) (Nat.le_refl _)
  rw [Nat.pow_succ]; omega

end Go.Proofs.Ytjbmafjnbncbpaa
