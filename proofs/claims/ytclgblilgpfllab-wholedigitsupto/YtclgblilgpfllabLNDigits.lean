import Derived.Test.YtclgblilgpfllabNFit
namespace Go.Proofs.Ytclgblilgpfllab
open Go.RowKit Go.BigFrame
set_option linter.unusedVariables false
set_option linter.unusedSimpArgs false

/-- What is laid down of a digest behind its first i digits. -/
def bkA (d : List Nat) (i j : Nat) : Nat := if 2 * j + 1 < i then d.getD j 0 else if 2 * j < i then d.getD j 0 / 16 else 0
def bkL (d : List Nat) (i : Nat) : List Nat := (List.range 32).map (bkA d i)
theorem bkL_len (d : List Nat) (i : Nat) : (bkL d i).length = 32 := by simp [bkL]
theorem bkL_get (d : List Nat) (i j : Nat) (hj : j < 32) : (bkL d i).getD j 0 = bkA d i j := by
  simp [bkL, List.getD_eq_getElem?_getD, hj]
theorem bkL_zero (d : List Nat) : bkL d 0 = List.replicate 32 0 := by
  refine list_ext_getD (by simp [bkL]) fun j hj => ?_
  rw [bkL_len] at hj
  rw [bkL_get d 0 j hj]
  unfold bkA
  rw [if_neg (by omega), if_neg (by omega)]
  rw [List.getD_eq_getElem?_getD, List.getElem?_replicate, if_pos hj]; rfl
theorem bkL_step (d : List Nat) (i : Nat) (hi : i < 64) (hb : ∀ x ∈ d, x < 256) : (bkL d i).set (i / 2) (bkA d i (i / 2) * 16 + dgt d i) = bkL d (i + 1) := by
  refine list_ext_getD (by simp [bkL]) fun j hj => ?_
  rw [List.length_set, bkL_len] at hj
  rw [bkL_get d (i + 1) j hj]
  by_cases h : i / 2 = j
  · rw [← h, getD_set_same _ _ _ (by rw [bkL_len]; omega)]
    unfold bkA dgt
    repeat' split
    all_goals omega
  · rw [getD_set_other _ _ _ _ (Ne.symm h), bkL_get d i j hj]
    unfold bkA
    repeat' split
    all_goals omega
theorem bkL_end {k : Nat} {d : List Nat} (hd : Dg d) (h1 : 1 ≤ k) (hk : k ≤ 32) (hf : formB (k : Int) d = true) : bkL d (2 * k) = d := by
  refine list_ext_getD (by rw [bkL_len, hd.1]) fun j hj => ?_
  rw [bkL_len] at hj
  rw [bkL_get d _ j hj]
  unfold bkA
  by_cases q : j < k
  · rw [if_pos (by omega)]
  · rw [if_neg (by omega), if_neg (by omega), (formB_iff hd.1 h1 hk).1 hf j (by omega) hj]
theorem bkA_bound (d : List Nat) (i : Nat) (hi : i < 64) (hb : ∀ x ∈ d, x < 256) : bkA d i (i / 2) ≤ 15 := by
  have h : d.getD (i / 2) 0 < 256 := by
    rw [List.getD_eq_getElem?_getD]
    rcases Nat.lt_or_ge (i / 2) d.length with hi | hi
    · rw [List.getElem?_eq_getElem hi]; exact hb _ (List.getElem_mem hi)
    · rw [List.getElem?_eq_none hi]; decide
  unfold bkA
  rw [if_neg (by omega)]
  split <;> omega
theorem at_ok {k : Nat} {d : List Nat} (hf : formB (k : Int) d = true) (i : Nat) (hi : i < 2 * k) : atE (k : Int) d (i : Int) = 0 ∧ atC (k : Int) d (i : Int) = dgt d i := by
  have hw : widthB (k : Int) = true := by unfold formB at hf; simp only [Bool.and_eq_true] at hf; exact hf.1
  have e : atE (k : Int) d (i : Int) = 0 := by unfold atE; rw [if_neg (by rw [hw]; simp; omega), if_pos hf]
  refine ⟨e, ?_⟩
  unfold atC
  rw [e, if_pos rfl, Int.toNat_natCast]
theorem at_bad {k : Nat} {d : List Nat} {i : Int} (h : i < 0 ∨ 2 * (k : Int) ≤ i) : atE (k : Int) d i = 1 ∧ atC (k : Int) d i = 0 := by
  have e : atE (k : Int) d i = 1 := by unfold atE; rw [if_pos (by omega)]
  refine ⟨e, ?_⟩
  unfold atC
  rw [e]; rfl

end Go.Proofs.Ytclgblilgpfllab
