/-
  Plain reckoning: numbers in groups of seven bits, numbers in bytes. No program, no model.
-/
import Derived.Laws.BitsAllLaws
namespace Go.Proofs.YtejchncdimcdbaaGreatDoor

/-- v in groups of seven bits, the lowest first. -/
def uv (v : Nat) : List Nat := if _h : v < 128 then [v] else (v % 128 + 128) :: uv (v / 128)

theorem uv_lt {v : Nat} (h : v < 128) : uv v = [v] := by rw [uv, dif_pos h]
theorem uv_ge {v : Nat} (h : 128 ≤ v) : uv v = (v % 128 + 128) :: uv (v / 128) := by rw [uv, dif_neg (by omega)]
theorem uv_pos (v : Nat) : 0 < (uv v).length := by rw [uv]; split <;> simp
theorem uv_byte (v : Nat) : ∀ x ∈ uv v, x < 256 := by
  induction v using uv.induct with
  | case1 v h => rw [uv_lt h]; simp; omega
  | case2 v h ih => rw [uv_ge (by omega)]; intro x hx; simp at hx; rcases hx with rfl | hx; omega; exact ih x hx

/-- One group more for each 128. -/
theorem uv_len_le (k : Nat) : ∀ v, v < 128 ^ (k + 1) → (uv v).length ≤ k + 1 := by
  induction k with
  | zero => intro v h; rw [uv_lt (by simpa using h)]; simp
  | succ k ih =>
    intro v h
    by_cases hv : v < 128
    · rw [uv_lt hv]; simp
    · rw [uv_ge (by omega)]
      have := ih (v / 128) (by rw [Nat.div_lt_iff_lt_mul (by omega)]; rw [Nat.pow_succ] at h; exact h)
      simp; omega
theorem uv_len (v : Nat) (h : v < 18446744073709551616) : (uv v).length ≤ 10 := uv_len_le 9 v (by omega)

/-- The byte at place i. -/
theorem uv_at (v : Nat) : ∀ i, i < (uv v).length → (uv v).getD i 0 = v / 128 ^ i % 128 + if i + 1 < (uv v).length then 128 else 0 := by
  induction v using uv.induct with
  | case1 v h => intro i hi; rw [uv_lt h] at hi ⊢; simp at hi; subst hi; simp; omega
  | case2 v h ih =>
    intro i hi
    rw [uv_ge (by omega)] at hi ⊢
    cases i with
    | zero => have := uv_pos (v / 128); rw [if_pos (by simp only [List.length_cons]; omega)]; simp
    | succ i =>
      simp only [List.length_cons] at hi
      have := ih i (by omega)
      simp only [List.getD_cons_succ, List.length_cons]
      rw [this, Nat.pow_succ, Nat.mul_comm, ← Nat.div_div_eq_div_mul]
      by_cases h1 : i + 1 < (uv (v / 128)).length
      · rw [if_pos h1, if_pos (by omega)]
      · rw [if_neg h1, if_neg (by omega)]

/-- Behind the last group nothing is left; the last group of several is not 0. -/
theorem uv_end (v : Nat) : v / 128 ^ (uv v).length = 0 := by
  induction v using uv.induct with
  | case1 v h => rw [uv_lt h]; simp; omega
  | case2 v h ih =>
    rw [uv_ge (by omega)]
    simp only [List.length_cons]
    rw [Nat.pow_succ, Nat.mul_comm, ← Nat.div_div_eq_div_mul]; exact ih
theorem uv_last (v : Nat) (h : 1 < (uv v).length) : 0 < v / 128 ^ ((uv v).length - 1) := by
  induction v using uv.induct with
  | case1 v h1 => rw [uv_lt h1] at h; simp at h
  | case2 v h1 ih =>
    rw [uv_ge (by omega)] at h ⊢
    simp only [List.length_cons, Nat.add_sub_cancel] at h ⊢
    by_cases h2 : 1 < (uv (v / 128)).length
    · have := ih h2
      have hp := uv_pos (v / 128)
      obtain ⟨k, hk⟩ : ∃ k, (uv (v / 128)).length = k + 1 := ⟨(uv (v / 128)).length - 1, by omega⟩
      rw [hk] at this ⊢
      simp only [Nat.add_sub_cancel] at this
      rw [Nat.pow_succ, Nat.mul_comm, ← Nat.div_div_eq_div_mul]; exact this
    · have hp := uv_pos (v / 128)
      have e : (uv (v / 128)).length = 1 := by omega
      rw [e]; simp; omega

/-- How many groups. -/
theorem uv_count {v k : Nat} (h : 0 < v / 128 ^ k) : k < (uv v).length := by
  rcases Nat.lt_or_ge k (uv v).length with h1 | h1
  · exact h1
  · exfalso
    have e := uv_end v
    have : v / 128 ^ k = 0 := by
      rw [show k = (uv v).length + (k - (uv v).length) from by omega, Nat.pow_add, ← Nat.div_div_eq_div_mul, e]; simp
    omega

/-- The program's byte(v) | 128. -/
theorem nat_or128 (a : Nat) (h : a < 256) : a ||| 128 = a % 128 + 128 := by
  rcases Nat.lt_or_ge a 128 with h1 | h1
  · rw [Nat.or_comm, nat_join 7 128 a (by decide) h1, Nat.mod_eq_of_lt h1, Nat.add_comm]
  · obtain ⟨c, rfl⟩ : ∃ c, a = 128 + c := ⟨a - 128, by omega⟩
    have hc : c < 128 := by omega
    have e : 128 + c = 128 ||| c := (nat_join 7 128 c (by decide) hc).symm
    rw [e, Nat.or_assoc, Nat.or_comm c 128, ← Nat.or_assoc, Nat.or_self, ← e]; omega
theorem or128 (x : Int) (h0 : 0 ≤ x) (h1 : x < 256) : bits .or .u8 x 128 = x % 128 + 128 := by
  obtain ⟨a, rfl⟩ := Int.eq_ofNat_of_zero_le h0
  rw [show (128 : Int) = ((128 : Nat) : Int) from rfl, u8_or_nat a 128 (by omega) (by omega), nat_or128 a (by omega)]; omega

/-- The size lowest bytes of v, the highest first. -/
def wide (v : Nat) : Nat → List Nat
  | 0 => []
  | k + 1 => (v / 256 ^ k % 256) :: wide v k

theorem wide_len (v k : Nat) : (wide v k).length = k := by induction k with | zero => rfl | succ k ih => simp [wide, ih]
theorem wide_byte (v k : Nat) : ∀ x ∈ wide v k, x < 256 := by
  induction k with
  | zero => simp [wide]
  | succ k ih => intro x hx; simp only [wide, List.mem_cons] at hx; rcases hx with rfl | hx; exact Nat.mod_lt _ (by omega); exact ih x hx

end Go.Proofs.YtejchncdimcdbaaGreatDoor
