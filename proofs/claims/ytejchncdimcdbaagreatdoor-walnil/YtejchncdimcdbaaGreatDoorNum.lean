/-
  Plain reckoning: numbers in groups of seven bits, numbers in bytes. No program, no model.
-/
import Derived.Laws.BitsAllLaws
namespace Go.Proofs.YtejchncdimcdbaaGreatDoor

/-- v in groups of seven bits, the lowest first. -/
def uv (v : Nat) : List Nat := if _h : v < 128 then [v] else (v % 128 + 128) :: uv (v / 128)
theorem uv_lt {v : Nat} (h : v < 128) : uv v = [v] := by rw [uv, dif_pos h]
theorem uv_ge {v : Nat} (h : 128 ≤ v) : uv v = (v % 128 + 128) :: uv (v / 128) := by rw [uv, dif_neg (by omega)]
theorem uv_pos (v : Nat) : 0 < (uv v).length := by rw [uv]; split <;> simp
/-- One group more for each 128. -/
theorem uv_len_le (k : Nat) : ∀ v, v < 128 ^ (k + 1) → (uv v).length ≤ k + 1 := by
  induction k with
  | zero => intro v h; rw [uv_lt (by simpa using h)]; simp
  | succ k ih =>
    intro v h
    by_cases hv : v < 128
    · rw [uv_lt hv]; simp
    · rw [uv_ge (by omega)]
      have := ih (v / 128) (by rw [Nat.div_lt_iff_lt_mul (by omega)]; rw [Nat.pow_succ] at h; exact h)
      simp; omega
theorem uv_len (v : Nat) (h : v < 18446744073709551616) : (uv v).length ≤ 10 := uv_len_le 9 v (by omega)
/-- The program's byte(v) | 128. -/
theorem nat_or128 (a : Nat) (h : a < 256) : a ||| 128 = a % 128 + 128 := by
  rcases Nat.lt_or_ge a 128 with h1 | h1
  · rw [Nat.or_comm, nat_join 7 128 a (by decide) h1, Nat.mod_eq_of_lt h1, Nat.add_comm]
  · obtain ⟨c, rfl⟩ : ∃ c, a = 128 + c := ⟨a - 128, by omega⟩
    have hc : c < 128 := by omega
    have e : 128 + c = 128 ||| c := (nat_join 7 128 c (by decide) hc).symm
    rw [e, Nat.or_assoc, Nat.or_comm c 128, ← Nat.or_assoc, Nat.or_self, ← e]; omega
theorem or128 (x : Int) (h0 : 0 ≤ x) (h1 : x < 256) : bits .or .u8 x 128 = x % 128 + 128 := by
  obtain ⟨a, rfl⟩ := Int.eq_ofNat_of_zero_le h0
  rw [show (128 : Int) = ((128 : Nat) : Int) from rfl, u8_or_nat a 128 (by omega) (by omega), nat_or128 a (by omega)]; omega
/-- The size lowest bytes of v, the highest first. -/
def wide (v : Nat) : Nat → List Nat
  | 0 => []
  | k + 1 => (v / 256 ^ k % 256) :: wide v k
theorem wide_len (v k : Nat) : (wide v k).length = k := by induction k with | zero => rfl | succ k ih => simp [wide, ih]
theorem wide_byte (v k : Nat) : ∀ x ∈ wide v k, x < 256 := by
  induction k with
  | zero => simp [wide]
  | succ k ih => intro x hx; simp only [wide, List.mem_cons] at hx; rcases hx with rfl | hx; exact Nat.mod_lt _ (by omega); exact ih x hx
end Go.Proofs.YtejchncdimcdbaaGreatDoor
