import Derived.Test.YtbljofojeagdkaaDoorMT4
namespace Go.Proofs.YtbljofojeagdkaaDoor
open Go.RowKit Go.BigFrame
set_option linter.unusedVariables false
set_option linter.unusedSimpArgs false

theorem ctz_form {M : Nat} (hM : M ≠ 0) (hM2 : M < 18446744073709551616) : ∃ m, M = 2 ^ Lib.ctz 64 M * (2 * m + 1) := by
  obtain ⟨m, h, _⟩ := Lib.ctzFrom_spec 64 M (by omega) (by simpa using hM2)
  refine ⟨m, ?_⟩
  have e : Lib.ctz 64 M = Lib.ctzFrom 64 M := by unfold Lib.ctz; rw [if_neg hM]
  rw [e]; exact h
/-- Below the count of trailing noughts the last two peaks have one height. -/
theorem push_two {front : List Pk} {i M c m : Nat} (hc : M = 2 ^ c * (2 * m + 1)) (hi : i < c) (hI : Inc i (front.reverse.map (·.h))) (hs : sumP (front.reverse.map (·.h)) + 2 ^ i = M) :
    ∃ f2 pa, front = f2 ++ [pa] ∧ pa.h = i ∧ Inc (i + 1) (f2.reverse.map (·.h)) ∧ sumP (f2.reverse.map (·.h)) + 2 ^ (i + 1) = M := by
  obtain ⟨d, hd⟩ : ∃ d, c = i + 1 + d := ⟨c - (i + 1), by omega⟩
  have h1 : M = 2 ^ (i + 1) * (2 ^ d * (2 * m + 1)) := by rw [hc, hd, Nat.pow_add]; rw [Nat.mul_assoc]
  obtain ⟨q, hq⟩ : ∃ q, 2 ^ d * (2 * m + 1) = q := ⟨_, rfl⟩
  rw [hq] at h1
  have hq0 : 0 < q := by rw [← hq]; exact Nat.mul_pos (Nat.pow_pos (by omega)) (by omega)
  have hp : 0 < 2 ^ i := Nat.pow_pos (by omega)
  have hp2 : 2 ^ (i + 1) = 2 ^ i * 2 := Nat.pow_succ ..
  have h2 : sumP (front.reverse.map (·.h)) = 2 ^ i * (2 * (q - 1) + 1) := by
    have e : 2 ^ i * (2 * (q - 1) + 1) + 2 ^ i = 2 ^ (i + 1) * q := by
      rw [hp2, Nat.mul_assoc]
      have : 2 ^ i * (2 * (q - 1) + 1) + 2 ^ i = 2 ^ i * ((2 * (q - 1) + 1) + 1) := by rw [Nat.mul_add (2 ^ i) (2 * (q - 1) + 1) 1, Nat.mul_one]
      rw [this]
      congr 1
      omega
    omega
  obtain ⟨S', hS, hI', hs'⟩ := inc_odd hI h2 (by omega)
  have hd2 : (2 * (q - 1) + 1) / 2 = q - 1 := by omega
  rw [hd2] at hs'
  rcases List.eq_nil_or_concat front with rfl | ⟨f2, pa, rfl⟩
  · simp at hS
  · refine ⟨f2, pa, by simp, ?_⟩
    simp only [List.concat_eq_append, List.reverse_append, List.reverse_cons, List.reverse_nil, List.nil_append, List.singleton_append, List.map_cons, List.cons.injEq] at hS
    obtain ⟨e1, e2⟩ := hS
    refine ⟨e1, by rw [e2]; exact hI', ?_⟩
    rw [e2, hs', h1]
    have : 2 ^ (i + 1) * (q - 1) + 2 ^ (i + 1) = 2 ^ (i + 1) * ((q - 1) + 1) := by rw [Nat.mul_add _ _ 1, Nat.mul_one]
    rw [this]
    congr 1
    omega
/-- There all peaks but the last stand higher. -/
theorem push_end {front : List Pk} {M c m : Nat} (hc : M = 2 ^ c * (2 * m + 1)) (hI : Inc c (front.reverse.map (·.h))) (hs : sumP (front.reverse.map (·.h)) + 2 ^ c = M) : Inc (c + 1) (front.reverse.map (·.h)) := by
  have h2 : sumP (front.reverse.map (·.h)) = 2 ^ c * (2 * m) := by
    rw [Nat.mul_add, Nat.mul_one] at hc; omega
  exact inc_even hI h2 (by omega)
/-- A run of an owned row's cells. -/
theorem owns_range {w : World} {base T sz g n cap : Nat} {xs A B C : List Value} (h : w.ownsRow base T sz (.slice (some ⟨g, 0, none⟩) n cap) n xs) (hx : xs = A ++ (B ++ C)) (o : Nat) (ho : o = A.length) : w.rangeAt g o B := by
  intro j u hj
  subst ho
  rcases h.2 with ⟨h9, h1⟩ | ⟨g', cap', cur, h1, h2, h3, h4, h5, h6, h7⟩
  · cases h9
  · cases h1
    have hjl := (List.getElem?_eq_some_iff.1 hj).1
    have h8 : xs[A.length + j]? = some u := by rw [hx, List.getElem?_append_right (by omega), List.getElem?_append_left (by simpa using hjl)]; simpa using hj
    rw [← h7, List.getElem?_take] at h8
    split at h8
    · have h9 : cur[A.length + j]? = some u := by simpa using h8
      have := cell_of_row w g (A.length + j) _ _ _ h3
      rw [this]; exact h9
    · cases h8
theorem owns_ne {w : World} {base T T' sz g n cap t : Nat} {xs : List Value} {cs : Array Value} {m : Nat × Nat} (h : w.ownsRow base T sz (.slice (some ⟨g, 0, none⟩) n cap) n xs) (ht : w.heap[t]? = some (.cells cs T' m)) (hT : T' ≠ T) : ¬ t = g := by
  rcases h.2 with ⟨h9, h1⟩ | ⟨g', cap', cur, h1, h2, h3, h4, h5, h6, h7⟩
  · cases h9
  · cases h1
    rintro rfl
    rw [h3] at ht
    simp only [Option.some.injEq, Obj.cells.injEq] at ht
    exact hT ht.2.1.symm
theorem owns_cap {w : World} {base T sz g n cap : Nat} {xs : List Value} (h : w.ownsRow base T sz (.slice (some ⟨g, 0, none⟩) n cap) n xs) : n ≤ cap ∧ base ≤ g ∧ g < w.heap.size := by
  have := h.lt g rfl
  rcases h.2 with ⟨h9, h1⟩ | ⟨g', cap', cur, h1, h2, h3, h4, h5, h6, h7⟩
  · cases h9
  · cases h1
    exact ⟨h4, h2, lt_of_block h3⟩
theorem owns_rd {w : World} {base g n cap : Nat} {ps : List Pk} (h : w.ownsRow base 87 33 (.slice (some ⟨g, 0, none⟩) n cap) n (cellsK ps)) (hn : n = ps.length) : RdK3 w (.slice (some ⟨g, 0, none⟩) n cap) ps := by
  subst hn
  have h1 := owns_cap h
  have h2 := owns_range (A := []) (B := cellsK ps) (C := []) h (by simp) 0 rfl
  refine ⟨_, _, rfl, h1.1, ?_, fun _ => ⟨g, 0, rfl, h2⟩⟩
  rcases h.2 with ⟨h9, h1⟩ | ⟨g', cap', cur, h1, h2, h3, h4, h5, h6, h7⟩
  · cases h9
  · cases h1; unfold maxLen at h5; omega

end Go.Proofs.YtbljofojeagdkaaDoor
