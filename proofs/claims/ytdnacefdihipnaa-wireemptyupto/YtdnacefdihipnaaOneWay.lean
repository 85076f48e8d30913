import Derived.Test.YtdnacefdihipnaaGen
namespace Go.Proofs.Ytdnacefdihipnaa
set_option linter.unusedVariables false
set_option linter.unusedSimpArgs false

theorem fold_form (r : List Nat) : ∀ a, (∀ y ∈ r, y < 256) → ∃ s, s < 256 ^ r.length ∧ r.foldl (fun a c => a * 256 + c) a = a * 256 ^ r.length + s := by
  induction r with
  | nil => intro a _; exact ⟨0, by simp, by simp⟩
  | cons c r ih =>
    intro a hb
    obtain ⟨s, hs, e⟩ := ih (a * 256 + c) (fun y hy => hb y (by simp [hy]))
    have hc := hb c (by simp)
    refine ⟨c * 256 ^ r.length + s, ?_, ?_⟩
    · simp only [List.length_cons]
      rw [Nat.pow_succ]
      have : c * 256 ^ r.length ≤ 255 * 256 ^ r.length := Nat.mul_le_mul (by omega) (Nat.le_refl _)
      omega
    · simp only [List.foldl_cons, List.length_cons]
      rw [e, Nat.pow_succ, Nat.add_mul, Nat.mul_comm (256 ^ r.length) 256, ← Nat.mul_assoc]; omega
theorem wide_fold (r : List Nat) : ∀ a, (∀ y ∈ r, y < 256) → wide (r.foldl (fun a c => a * 256 + c) a) r.length = r := by
  induction r with
  | nil => intro a _; rfl
  | cons c r ih =>
    intro a hb
    have hb' : ∀ y ∈ r, y < 256 := fun y hy => hb y (by simp [hy])
    have hc := hb c (by simp)
    obtain ⟨s, hs, e⟩ := fold_form r (a * 256 + c) hb'
    have h2 := ih (a * 256 + c) hb'
    simp only [List.foldl_cons, List.length_cons, wide]
    rw [h2, e]
    have hp : 0 < 256 ^ r.length := Nat.pow_pos (by omega)
    have : ((a * 256 + c) * 256 ^ r.length + s) / 256 ^ r.length = a * 256 + c := by
      rw [Nat.add_comm, Nat.add_mul_div_right _ _ hp, Nat.div_eq_of_lt hs, Nat.zero_add]
    rw [this]
    congr 1; omega
theorem fold_mod (r : List Nat) : ∀ a, (∀ y ∈ r, y < 256) → (a + 1) * 256 ^ r.length ≤ 18446744073709551616 → r.foldl (fun a c => (a * 256 + c) % 18446744073709551616) a = r.foldl (fun a c => a * 256 + c) a := by
  induction r with
  | nil => intro a _ _; rfl
  | cons c r ih =>
    intro a hb h
    have hc := hb c (by simp)
    simp only [List.foldl_cons]
    have hp : 0 < 256 ^ r.length := Nat.pow_pos (by omega)
    simp only [List.length_cons, Nat.pow_succ] at h
    have h2 : (a * 256 + c + 1) * 256 ^ r.length ≤ (a + 1) * (256 ^ r.length * 256) := by
      rw [Nat.mul_comm (256 ^ r.length) 256, ← Nat.mul_assoc]
      exact Nat.mul_le_mul (by omega) (Nat.le_refl _)
    have h3 : a * 256 + c + 1 ≤ (a * 256 + c + 1) * 256 ^ r.length := Nat.le_mul_of_pos_right _ hp
    rw [Nat.mod_eq_of_lt (by omega)]
    exact ih _ (fun y hy => hb y (by simp [hy])) (by omega)
theorem wide_beL {r : List Nat} (hb : ∀ y ∈ r, y < 256) (hl : r.length ≤ 8) : wide (beL r) r.length = r ∧ beL r < 256 ^ r.length := by
  have hpow : 256 ^ r.length ≤ 256 ^ 8 := Nat.pow_le_pow_right (by omega) hl
  have h8 : (256 : Nat) ^ 8 = 18446744073709551616 := (by decide)
  have e : beL r = r.foldl (fun a c => a * 256 + c) 0 := fold_mod r 0 hb (by omega)
  obtain ⟨s, hs, e2⟩ := fold_form r 0 hb
  rw [e]
  exact ⟨wide_fold r 0 hb, by rw [e2]; omega⟩

theorem rNum_one {P : List Nat} {i n v j : Nat} (h : rNum P i 0 n = (v, j, 0)) (hb : ∀ y ∈ P, y < 256) (hn : n ≤ 8) (hi : i ≤ P.length) : wide v n = (P.drop i).take n ∧ j = i + n ∧ j ≤ P.length ∧ v < 256 ^ n := by
  simp only [rNum, ne_eq, not_true_eq_false, if_false] at h
  split at h
  · simp at h
  · rename_i h1
    simp only [Prod.mk.injEq] at h
    obtain ⟨rfl, rfl, _⟩ := h
    have hl : ((P.drop i).take n).length = n := by simp; omega
    have := wide_beL (r := (P.drop i).take n) (fun y hy => hb y (List.mem_of_mem_drop (List.mem_of_mem_take hy))) (by omega)
    rw [hl] at this
    exact ⟨this.1, rfl, by omega, this.2⟩

theorem fuv_one (q : List Nat) : ∀ k a x s, (∀ y ∈ q, y < 256) → fuv q k a = (x, s) → s ≠ 0 → ∃ y, x = a + y * 128 ^ k ∧ k < s ∧ uv y = q.take (s - k) ∧ (0 < k → 0 < y) := by
  induction q with
  | nil => intro k a x s _ h hs; simp [fuv] at h; omega
  | cons c r ih =>
    intro k a x s hb h hs
    have hc := hb c (by simp)
    rw [fuv] at h
    split at h
    · simp at h; omega
    · split at h
      · rename_i h1 h2
        obtain ⟨y, hx, hk, hu, hy⟩ := ih (k + 1) _ x s (fun y hy => hb y (by simp [hy])) h hs
        have hy' := hy (by omega)
        refine ⟨y * 128 + c % 128, ?_, by omega, ?_, fun _ => by omega⟩
        · rw [hx, Nat.pow_succ, Nat.add_mul, Nat.mul_assoc, Nat.mul_comm 128 (128 ^ k)]; omega
        · rw [uv_ge (by omega)]
          have e1 : (y * 128 + c % 128) % 128 + 128 = c := by omega
          have e2 : (y * 128 + c % 128) / 128 = y := by omega
          rw [e1, e2, hu]
          rw [show s - k = (s - (k + 1)) + 1 from by omega, List.take_succ_cons]
      · split at h
        · simp at h; omega
        · rename_i h1 h2 h3
          simp only [Prod.mk.injEq] at h
          obtain ⟨rfl, rfl⟩ := h
          refine ⟨c, by rw [Nat.mod_eq_of_lt (by omega)], by omega, ?_, fun _ => by omega⟩
          rw [uv_lt (by omega), show k + 1 - k = 1 from by omega]
          simp

theorem rUvar_one {P : List Nat} {i v j : Nat} (h : rUvar P i 0 = (v, j, 0)) (hb : ∀ y ∈ P, y < 256) (hi : i ≤ P.length) : uv v = (P.drop i).take (j - i) ∧ i ≤ j ∧ j ≤ P.length ∧ v < 18446744073709551616 := by
  simp only [rUvar, ne_eq, not_true_eq_false, if_false] at h
  split at h
  · simp at h
  · rename_i h1
    simp only [Prod.mk.injEq] at h
    obtain ⟨rfl, rfl, _⟩ := h
    have hle := fuv_le (P.drop i) 0 0
    have hlt := fuv_lt (P.drop i) 0 0 (by decide) (by decide)
    obtain ⟨y, hx, hk, hu, _⟩ := fuv_one (P.drop i) 0 0 _ _ (fun y hy => hb y (List.mem_of_mem_drop hy)) (rfl : fuv (P.drop i) 0 0 = ((fuv (P.drop i) 0 0).1, (fuv (P.drop i) 0 0).2)) h1
    simp only [Nat.pow_zero, Nat.mul_one, Nat.zero_add, Nat.sub_zero] at hx hu
    simp at hle
    exact ⟨by rw [hx, hu]; congr 1; omega, by omega, by omega, hlt⟩

theorem rRaw_one {P : List Nat} {i j : Nat} {n : Int} {q : List Nat} (h : rRaw P i 0 n = (q, j, 0)) (hi : i ≤ P.length) : q = (P.drop i).take (j - i) ∧ i ≤ j ∧ j ≤ P.length := by
  simp only [rRaw, ne_eq, not_true_eq_false, if_false] at h
  split at h
  · simp at h
  · split at h
    · simp at h
    · rename_i h1 h2
      simp only [Prod.mk.injEq] at h
      obtain ⟨rfl, rfl, _⟩ := h
      exact ⟨by congr 1; omega, by omega, by omega⟩

theorem rBlob_one {P : List Nat} {i j : Nat} {n : Int} {q : List Nat} (h : rBlob P i 0 n = (q, j, 0)) (hb : ∀ y ∈ P, y < 256) (hi : i ≤ P.length) : uv q.length ++ q = (P.drop i).take (j - i) ∧ i ≤ j ∧ j ≤ P.length := by
  simp only [rBlob, ne_eq, not_true_eq_false, if_false] at h
  have hle := fuv_le (P.drop i) 0 0
  have hone := fuv_one (P.drop i) 0 0 _ _ (fun y hy => hb y (List.mem_of_mem_drop hy)) (rfl : fuv (P.drop i) 0 0 = ((fuv (P.drop i) 0 0).1, (fuv (P.drop i) 0 0).2))
  obtain ⟨x, s, hf⟩ : ∃ x s, fuv (P.drop i) 0 0 = (x, s) := ⟨_, _, rfl⟩
  rw [hf] at h hle hone
  simp only at h hle hone
  split at h
  · simp at h
  · split at h
    · simp at h
    · split at h
      · simp at h
      · split at h
        · simp at h
        · rename_i h1 h2 h3 h4
          simp only [Prod.mk.injEq] at h
          obtain ⟨rfl, rfl, _⟩ := h
          obtain ⟨y, hx, hk, hu, _⟩ := hone h2
          simp only [Nat.pow_zero, Nat.mul_one, Nat.zero_add, Nat.sub_zero] at hx hu
          subst hx
          simp only [List.length_drop] at hle h4
          have hl : (((P.drop i).drop s).take x).length = x := by simp; omega
          rw [hl, hu, show i + (s + x) - i = s + x from by omega]
          exact ⟨(List.take_add).symm, by omega, by omega⟩

/-- What is taken off without a fault, laid again, are the bytes. -/
theorem rTake_one {P : List Nat} {i j v : Nat} {q : List Nat} {k n : Int} (h : rTake P i 0 k n = (v, q, j, 0)) (hb : ∀ y ∈ P, y < 256) (hi : i ≤ P.length) (hk : 1 ≤ k ∧ k ≤ 7) :
    layB k v q = (P.drop i).take (j - i) ∧ i ≤ j ∧ j ≤ P.length ∧ v < 18446744073709551616 := by
  rcases kinds7 k with rfl | rfl | rfl | rfl | rfl | rfl | rfl | ⟨h1, h2, h3, h4, h5, h6', h7'⟩
  · obtain ⟨v', j', e', he⟩ : ∃ v' j' e', rNum P i 0 1 = (v', j', e') := ⟨_, _, _, rfl⟩
    simp [rTake, he] at h
    obtain ⟨rfl, rfl, rfl, rfl⟩ := h
    obtain ⟨a, rfl, b, c⟩ := rNum_one he hb (by omega) hi
    have hv : v' % 256 = v' := Nat.mod_eq_of_lt (by omega)
    rw [show layB 1 (v' % 256) [] = wide (v' % 256 % 256) 1 from rfl, hv, hv, a]
    exact ⟨by congr 1; omega, by omega, b, by omega⟩
  · obtain ⟨v', j', e', he⟩ : ∃ v' j' e', rNum P i 0 2 = (v', j', e') := ⟨_, _, _, rfl⟩
    simp [rTake, he] at h
    obtain ⟨rfl, rfl, rfl, rfl⟩ := h
    obtain ⟨a, rfl, b, c⟩ := rNum_one he hb (by omega) hi
    have hv : v' % 65536 = v' := Nat.mod_eq_of_lt (by omega)
    rw [show layB 2 (v' % 65536) [] = wide (v' % 65536 % 65536) 2 from rfl, hv, hv, a]
    exact ⟨by congr 1; omega, by omega, b, by omega⟩
  · obtain ⟨v', j', e', he⟩ : ∃ v' j' e', rNum P i 0 4 = (v', j', e') := ⟨_, _, _, rfl⟩
    simp [rTake, he] at h
    obtain ⟨rfl, rfl, rfl, rfl⟩ := h
    obtain ⟨a, rfl, b, c⟩ := rNum_one he hb (by omega) hi
    have hv : v' % 4294967296 = v' := Nat.mod_eq_of_lt (by omega)
    rw [show layB 3 (v' % 4294967296) [] = wide (v' % 4294967296 % 4294967296) 4 from rfl, hv, hv, a]
    exact ⟨by congr 1; omega, by omega, b, by omega⟩
  · obtain ⟨v', j', e', he⟩ : ∃ v' j' e', rNum P i 0 8 = (v', j', e') := ⟨_, _, _, rfl⟩
    simp [rTake, he] at h
    obtain ⟨rfl, rfl, rfl, rfl⟩ := h
    obtain ⟨a, rfl, b, c⟩ := rNum_one he hb (by omega) hi
    rw [show layB 4 v' [] = wide v' 8 from rfl, a]
    exact ⟨by congr 1; omega, by omega, b, by omega⟩
  · obtain ⟨v', j', e', he⟩ : ∃ v' j' e', rUvar P i 0 = (v', j', e') := ⟨_, _, _, rfl⟩
    simp [rTake, he] at h
    obtain ⟨rfl, rfl, rfl, rfl⟩ := h
    obtain ⟨a, b, c, d⟩ := rUvar_one he hb hi
    rw [show layB 5 v' [] = uv v' from rfl]
    exact ⟨a, b, c, d⟩
  · simp [rTake] at h
    obtain ⟨rfl, h⟩ := h
    obtain ⟨a, b, c⟩ := rRaw_one h hi
    rw [show layB 6 0 q = q from rfl]
    exact ⟨a, b, c, by omega⟩
  · simp [rTake] at h
    obtain ⟨rfl, h⟩ := h
    obtain ⟨a, b, c⟩ := rBlob_one h hb hi
    rw [show layB 7 0 q = uv q.length ++ q from rfl]
    exact ⟨a, b, c, by omega⟩
  · omega

/-- A fault leaves the place. -/
theorem rTake_fault {P : List Nat} {i j v e : Nat} {q : List Nat} {k n : Int} (h : rTake P i 0 k n = (v, q, j, e)) (he : e ≠ 0) : j = i := by
  have hN : ∀ s, (rNum P i 0 s).2.2 ≠ 0 → (rNum P i 0 s).2.1 = i := by
    intro s; simp only [rNum, ne_eq, not_true_eq_false, if_false]; split <;> simp
  have hU : (rUvar P i 0).2.2 ≠ 0 → (rUvar P i 0).2.1 = i := by
    simp only [rUvar, ne_eq, not_true_eq_false, if_false]; split <;> simp
  have hR : (rRaw P i 0 n).2.2 ≠ 0 → (rRaw P i 0 n).2.1 = i := by
    simp only [rRaw, ne_eq, not_true_eq_false, if_false]
    repeat' split
    all_goals simp
  have hB : (rBlob P i 0 n).2.2 ≠ 0 → (rBlob P i 0 n).2.1 = i := by
    simp only [rBlob, ne_eq, not_true_eq_false, if_false]
    repeat' split
    all_goals simp
  have h2 := congrArg (fun t => t.2.2.1) h
  have h3 := congrArg (fun t => t.2.2.2) h
  simp only at h2 h3
  rw [← h2]
  rw [← h3] at he
  rcases kinds7 k with rfl | rfl | rfl | rfl | rfl | rfl | rfl | ⟨g1, g2, g3, g4, g5, g6, g7⟩
  · exact hN 1 he
  · exact hN 2 he
  · exact hN 4 he
  · exact hN 8 he
  · exact hU he
  · exact hR he
  · exact hB he
  · simp [rTake, g1, g2, g3, g4, g5, g6, g7]
end Go.Proofs.Ytdnacefdihipnaa
