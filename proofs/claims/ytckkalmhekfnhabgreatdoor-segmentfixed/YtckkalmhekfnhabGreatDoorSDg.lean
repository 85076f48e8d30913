import Derived.Test.YtckkalmhekfnhabGreatDoorSNum
import Derived.Lib.ItoaNum
namespace Go.Proofs.YtckkalmhekfnhabGreatDoor
open Go.RowKit Go.BigFrame
set_option linter.unusedVariables false
set_option linter.unusedSimpArgs false

/-- The last k decimal digits of u. -/
def dgs (k u : Nat) : List Nat := (List.range k).map fun t => 48 + u / 10 ^ (k - 1 - t) % 10
theorem dgs_len (k u : Nat) : (dgs k u).length = k := by simp [dgs]
theorem dgs_dig (k u : Nat) : ∀ x ∈ dgs k u, 48 ≤ x ∧ x ≤ 57 := by
  intro x hx
  simp only [dgs, List.mem_map] at hx
  obtain ⟨t, _, rfl⟩ := hx
  omega
theorem dgs_byte (k u : Nat) : ∀ x ∈ dgs k u, x < 256 := fun x hx => by have := dgs_dig k u x hx; omega
theorem dgs_cons (k u : Nat) : dgs (k + 1) u = (48 + u / 10 ^ k % 10) :: dgs k u := by
  unfold dgs
  rw [List.range_succ_eq_map, List.map_cons, List.map_map]
  rw [List.cons.injEq]
  refine ⟨by simp, List.map_congr_left fun t ht => ?_⟩
  have : k + 1 - 1 - (t + 1) = k - 1 - t := by omega
  simp only [Function.comp, Nat.succ_eq_add_one, this]
theorem dgs_snoc (k u : Nat) : dgs (k + 1) u = dgs k (u / 10) ++ [48 + u % 10] := by
  unfold dgs
  rw [List.range_succ, List.map_append]
  have h1 : (List.range k).map (fun t => 48 + u / 10 ^ (k + 1 - 1 - t) % 10) = (List.range k).map (fun t => 48 + u / 10 / 10 ^ (k - 1 - t) % 10) := List.map_congr_left fun t ht => by
    have ht' : t < k := by simpa using ht
    rw [show k + 1 - 1 - t = (k - 1 - t) + 1 by omega, Nat.pow_succ', Nat.div_div_eq_div_mul]
  rw [h1]
  simp
theorem dval_dgs : ∀ (k u : Nat), dval (dgs k u) = u % 10 ^ k
  | 0, u => by simp [dgs, dval, Nat.mod_one]
  | k + 1, u => by
    rw [dgs_snoc, dval_snoc, dval_dgs k (u / 10), Nat.pow_succ', Nat.mod_mul]
    omega
theorem dgs_pad (k u : Nat) (h : u < 10 ^ k) : ∀ j, dgs (j + k) u = List.replicate j 48 ++ dgs k u
  | 0 => by simp
  | j + 1 => by
    rw [show j + 1 + k = (j + k) + 1 by omega, dgs_cons, dgs_pad k u h j]
    have h1 : u / 10 ^ (j + k) = 0 := Nat.div_eq_of_lt (Nat.lt_of_lt_of_le h (Nat.pow_le_pow_right (by omega) (by omega)))
    rw [h1, List.replicate_succ]
    rfl
theorem dgs_mod : ∀ (k u : Nat), dgs k (u % 10 ^ k) = dgs k u
  | 0, u => by simp [dgs]
  | k + 1, u => by
    rw [dgs_snoc, dgs_snoc k u, Nat.pow_succ', Nat.mod_mul_right_div_self, dgs_mod k (u / 10), Nat.mod_mul_right_mod]
theorem dgs_lt : ∀ (k a b : Nat), a < b → b < 10 ^ k → dgs k a < dgs k b
  | 0, a, b, h1, h2 => by simp at h2; omega
  | k + 1, a, b, h1, h2 => by
    rw [dgs_cons, dgs_cons]
    have hp : 0 < 10 ^ k := Nat.pow_pos (by omega)
    have ha : a / 10 ^ k < 10 := by rw [Nat.div_lt_iff_lt_mul hp]; rw [Nat.pow_succ'] at h2; omega
    have hb : b / 10 ^ k < 10 := by rw [Nat.div_lt_iff_lt_mul hp]; rw [Nat.pow_succ'] at h2; omega
    have hle : a / 10 ^ k ≤ b / 10 ^ k := Nat.div_le_div_right (by omega)
    rw [Nat.mod_eq_of_lt ha, Nat.mod_eq_of_lt hb]
    by_cases he : a / 10 ^ k = b / 10 ^ k
    · rw [he]
      have h3 : a % 10 ^ k < b % 10 ^ k := by
        have e1 := Nat.div_add_mod a (10 ^ k)
        have e2 := Nat.div_add_mod b (10 ^ k)
        rw [he] at e1
        omega
      have h4 := dgs_lt k (a % 10 ^ k) (b % 10 ^ k) h3 (Nat.mod_lt _ hp)
      rw [dgs_mod, dgs_mod] at h4
      exact List.cons_lt_cons_iff.2 (Or.inr ⟨rfl, h4⟩)
    · exact List.cons_lt_cons_iff.2 (Or.inl (by omega))
/-- The name of a segment. -/
def nmL (u : Nat) : List Nat := [115, 101, 103, 45] ++ dgs 20 u
theorem nmL_len (u : Nat) : (nmL u).length = 24 := by simp [nmL, dgs_len]
theorem nmL_byte (u : Nat) : ∀ x ∈ nmL u, x < 256 := by
  intro x hx
  rcases List.mem_append.1 hx with h | h
  · simp at h; omega
  · exact dgs_byte 20 u x h
theorem nmL_inj {a b : Nat} (ha : a < 18446744073709551616) (hb : b < 18446744073709551616) (h : nmL a = nmL b) : a = b := by
  have h1 := congrArg dval (List.append_cancel_left h)
  rw [dval_dgs, dval_dgs, Nat.mod_eq_of_lt (by omega), Nat.mod_eq_of_lt (by omega)] at h1
  exact h1
theorem nmL_lt {a b : Nat} (h : a < b) (hb : b < 18446744073709551616) : nmL a < nmL b := by
  have h1 := dgs_lt 20 a b h (by omega)
  unfold nmL
  simpa [List.cons_lt_cons_iff] using h1
theorem strB_app (p q : List Nat) : strB (p ++ q) = strB p ++ strB q := by
  apply ByteArray.ext
  rw [ByteArray.data_append]
  simp [strB]
theorem strB_dec (u : Nat) : (⟨(Lib.decDigits u).toArray⟩ : ByteArray) = strB (dgs (Lib.nDigits u) u) := by
  rw [Lib.decDigits_eq]
  unfold strB dgs
  rw [List.map_map]
  rfl
theorem zer_rep : ∀ k : Fin 21, zer64.extract 0 k.val = strB (List.replicate k.val 48) := by decide +kernel
theorem strB_inj {p q : List Nat} (hp : ∀ x ∈ p, x < 256) (hq : ∀ x ∈ q, x < 256) (h : strB p = strB q) : p = q := by
  have h1 : p.map UInt8.ofNat = q.map UInt8.ofNat := by
    have := congrArg (fun s => s.data.toList) h
    simpa [strB] using this
  have h2 := congrArg (List.map UInt8.toNat) h1
  rw [List.map_map, List.map_map] at h2
  have e : ∀ l : List Nat, (∀ x ∈ l, x < 256) → l.map (UInt8.toNat ∘ UInt8.ofNat) = l := by
    intro l hl
    conv => rhs; rw [← List.map_id l]
    refine List.map_congr_left fun x hx => ?_
    simp [Nat.mod_eq_of_lt (hl x hx)]
  rwa [e p hp, e q hq] at h2
end Go.Proofs.YtckkalmhekfnhabGreatDoor
