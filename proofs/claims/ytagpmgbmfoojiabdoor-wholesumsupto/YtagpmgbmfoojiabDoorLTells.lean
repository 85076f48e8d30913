import Derived.Test.YtagpmgbmfoojiabDoorCAw
namespace Go.Proofs.YtagpmgbmfoojiabDoor
open Go.RowKit
set_option linter.unusedVariables false
set_option linter.unusedSimpArgs false

theorem take_of_getD {p q : List Nat} (n : Nat) (hl : p.length = q.length) (h : ∀ j, j < n → p.getD j 0 = q.getD j 0) : p.take n = q.take n := by
  apply List.ext_getElem
  · simp [hl]
  · intro i h1 h2
    rw [List.length_take] at h1 h2
    have h1 := Nat.lt_min.1 h1
    have h2 := Nat.lt_min.1 h2
    have := h i h1.1
    simp only [List.getD_eq_getElem?_getD, List.getElem?_eq_getElem h1.2, List.getElem?_eq_getElem h2.2, Option.getD_some] at this
    simpa using this
theorem drop_of_getD {p q : List Nat} (n : Nat) (hl : p.length = q.length) (h : ∀ j, n ≤ j → p.getD j 0 = q.getD j 0) : p.drop n = q.drop n := by
  apply List.ext_getElem
  · simp [hl]
  · intro i h1 h2
    simp at h1 h2
    have := h (n + i) (by omega)
    simp only [List.getD_eq_getElem?_getD, List.getElem?_eq_getElem (show n + i < p.length by omega), List.getElem?_eq_getElem (show n + i < q.length by omega), Option.getD_some] at this
    simpa using this
/-- What the turned text may be. -/
def Turned4 (p : List Nat) (a : Nat) (qs : List Nat) : Prop := qs.length = p.length ∧ (∀ x ∈ qs, x < 256) ∧ ∀ j, (j < a ∨ a + 4 ≤ j) → qs.getD j 0 = p.getD j 0
theorem Turned4.set {p qs : List Nat} {a : Nat} (h : Turned4 p a qs) (j v : Nat) (h1 : a ≤ j) (h2 : j < a + 4) (hv : v < 256) : Turned4 p a (qs.set j v) := by
  refine ⟨by simpa using h.1, ?_, ?_⟩
  · intro x hx
    rcases List.mem_or_eq_of_mem_set hx with h3 | h3
    · exact h.2.1 x h3
    · omega
  · intro i hi
    rw [getD_set_other _ _ _ _ (by omega)]; exact h.2.2 i hi
theorem Turned4.tells {p qs : List Nat} {a : Nat} (h : Turned4 p a qs) (hp : ∀ x ∈ p, x < 256) : upd 0 p = upd 0 qs → p = qs := fun e =>
  reg_tells _ p qs a (by decide) h.1.symm hp h.2.1 (take_of_getD a h.1.symm fun j hj => (h.2.2 j (by omega)).symm) (drop_of_getD (a + 4) h.1.symm fun j hj => (h.2.2 j (by omega)).symm) (upd_inj e)
theorem set_u8 (qs : List Nat) (k v : Nat) : (qs.map u8).toArray.setIfInBounds k (u8 v) = ((qs.set k v).map u8).toArray := by rw [List.map_set]; simp
theorem u8_xor_lt {a b : Nat} (ha : a < 256) (hb : b < 256) : a ^^^ b < 256 := Nat.xor_lt_two_pow (n := 8) ha hb

end Go.Proofs.YtagpmgbmfoojiabDoor
