import Derived.Test.YtkcanelboloihaaRBlob
namespace Go.Proofs.Ytkcanelboloihaa
set_option linter.unusedVariables false
set_option linter.unusedSimpArgs false
theorem fuv_short (x : Nat) : ∀ k a n, n < (uv x).length → (fuv ((uv x).take n) k a).2 = 0 := by
  induction x using uv.induct with
  | case1 x h => intro k a n hn; rw [uv_lt h] at hn ⊢; simp at hn; subst hn; simp [fuv]
  | case2 x h ih =>
    intro k a n hn
    rw [uv_ge (by omega)] at hn ⊢
    cases n with
    | zero => simp [fuv]
    | succ n =>
      simp only [List.take_succ_cons, List.length_cons] at hn ⊢
      rw [fuv]
      split
      · rfl
      · rw [if_pos (by omega)]
        exact ih _ _ n (by omega)

theorem fuv_back (x : Nat) : ∀ k a r, x * 128 ^ k < 18446744073709551616 → k ≤ 9 → (0 < k → 0 < x) → fuv (uv x ++ r) k a = (a + x * 128 ^ k, k + (uv x).length) := by
  have h9 : (128 : Nat) ^ 9 = 9223372036854775808 := (by decide)
  induction x using uv.induct with
  | case1 x h =>
    intro k a r hx hk h0
    rw [uv_lt h]
    simp only [List.cons_append, List.nil_append, List.length_cons, List.length_nil]
    rw [fuv, if_neg, if_neg (by omega), if_neg (by omega), Nat.mod_eq_of_lt h]
    rintro ⟨rfl, h1⟩
    rw [h9] at hx
    have := h0 (by omega); omega
  | case2 x h ih =>
    intro k a r hx hk h0
    rw [uv_ge (by omega)]
    simp only [List.cons_append, List.length_cons]
    have hk9 : k ≠ 9 := by
      rintro rfl
      rw [h9] at hx
      omega
    have hpow : 128 ^ (k + 1) = 128 ^ k * 128 := Nat.pow_succ ..
    have hsum : x % 128 * 128 ^ k + x / 128 * 128 ^ (k + 1) = x * 128 ^ k := by
      rw [hpow, show x / 128 * (128 ^ k * 128) = (x / 128 * 128) * 128 ^ k from by rw [Nat.mul_comm (128 ^ k) 128, Nat.mul_assoc], ← Nat.add_mul]
      congr 1; omega
    rw [fuv, if_neg (by omega), if_pos (by omega), ih (k + 1) _ r (by omega) (by omega) (by omega)]
    have hm : (x % 128 + 128) % 128 = x % 128 := by omega
    rw [hm]
    simp only [Prod.mk.injEq]
    omega

theorem beL_wide (v : Nat) : ∀ n a, n ≤ 8 → a * 256 ^ n + v % 256 ^ n < 18446744073709551616 → (wide v n).foldl (fun a c => (a * 256 + c) % 18446744073709551616) a = a * 256 ^ n + v % 256 ^ n := by
  intro n
  induction n with
  | zero => intro a _ _; simp [wide, Nat.mod_one]
  | succ n ih =>
    intro a hn h
    have hpow : 256 ^ (n + 1) = 256 ^ n * 256 := Nat.pow_succ ..
    have hv : v % 256 ^ (n + 1) = v / 256 ^ n % 256 * 256 ^ n + v % 256 ^ n := by
      rw [hpow, Nat.mod_mul]
      rw [Nat.mul_comm (256 ^ n)]; omega
    have hpos : 0 < 256 ^ n := Nat.pow_pos (by omega)
    have e1 : a * 256 ^ (n + 1) = a * 256 * 256 ^ n := by rw [hpow, Nat.mul_comm (256 ^ n) 256, Nat.mul_assoc]
    have e2 : (a * 256 + v / 256 ^ n % 256) * 256 ^ n = a * 256 * 256 ^ n + v / 256 ^ n % 256 * 256 ^ n := Nat.add_mul ..
    have hle : a * 256 + v / 256 ^ n % 256 ≤ (a * 256 + v / 256 ^ n % 256) * 256 ^ n := Nat.le_mul_of_pos_right _ hpos
    simp only [wide, List.foldl_cons]
    rw [Nat.mod_eq_of_lt (by omega), ih _ (by omega) (by omega)]
    omega

theorem rNum_back {P : List Nat} {i v n : Nat} {r : List Nat} (hd : P.drop i = wide v n ++ r) (hn : n ≤ 8) (hv : v < 256 ^ n) : rNum P i 0 n = (v, i + n, 0) := by
  have h1 := congrArg List.length hd
  simp [wide_len] at h1
  have h2 : (P.drop i).take n = wide v n := by rw [hd]; simp [wide_len, List.take_append]
  have h3 : 256 ^ n ≤ 256 ^ 8 := Nat.pow_le_pow_right (by omega) hn
  have h4 : (256 : Nat) ^ 8 = 18446744073709551616 := (by decide)
  have h5 := beL_wide v n 0 hn (by rw [Nat.mod_eq_of_lt hv]; omega)
  simp only [Nat.zero_mul, Nat.zero_add, Nat.mod_eq_of_lt hv] at h5
  simp only [rNum, ne_eq, not_true_eq_false, if_false]
  rw [if_neg (by omega), h2]
  simp only [beL, h5]
theorem rNum_short {P : List Nat} {i n : Nat} (hd : (P.drop i).length < n) : rNum P i 0 n = (0, i, 3) := by
  simp at hd
  simp [rNum, hd]

theorem rUvar_back {P : List Nat} {i x : Nat} {r : List Nat} (hd : P.drop i = uv x ++ r) (hx : x < 18446744073709551616) : rUvar P i 0 = (x, i + (uv x).length, 0) := by
  have h := fuv_back x 0 0 r (by omega) (by omega) (by omega)
  have hp := uv_pos x
  simp only [rUvar, hd, h, ne_eq, not_true_eq_false, if_false]
  rw [if_neg (by omega)]; simp
theorem rRaw_back {P : List Nat} {i : Nat} {p r : List Nat} (hd : P.drop i = p ++ r) (hi : i ≤ P.length) : rRaw P i 0 p.length = (p, i + p.length, 0) := by
  have h1 := congrArg List.length hd
  simp at h1
  simp only [rRaw, ne_eq, not_true_eq_false, if_false]
  rw [if_neg (by omega), if_neg (by omega), hd]
  simp
theorem rBlob_back {P : List Nat} {i : Nat} {p r : List Nat} {m : Int} (hd : P.drop i = uv p.length ++ p ++ r) (hm : (p.length : Int) ≤ m) (hp : p.length < 18446744073709551616) : rBlob P i 0 m = (p, i + ((uv p.length).length + p.length), 0) := by
  have h := fuv_back p.length 0 0 (p ++ r) (by omega) (by omega) (by omega)
  rw [← List.append_assoc] at h
  have hq := uv_pos p.length
  simp only [rBlob, hd, h, ne_eq, not_true_eq_false, if_false, Nat.zero_add, Nat.pow_zero, Nat.mul_one]
  rw [if_neg (by omega), if_neg (by omega), if_neg (by omega), if_neg (by simp)]
  simp
theorem fold_form (r : List Nat) : ∀ a, (∀ y ∈ r, y < 256) → ∃ s, s < 256 ^ r.length ∧ r.foldl (fun a c => a * 256 + c) a = a * 256 ^ r.length + s := by
  induction r with
  | nil => intro a _; exact ⟨0, by simp, by simp⟩
  | cons c r ih =>
    intro a hb
    obtain ⟨s, hs, e⟩ := ih (a * 256 + c) (fun y hy => hb y (by simp [hy]))
    have hc := hb c (by simp)
    refine ⟨c * 256 ^ r.length + s, ?_, ?_⟩
    · simp only [List.length_cons]
      rw [Nat.pow_succ]
      have : c * 256 ^ r.length ≤ 255 * 256 ^ r.length := Nat.mul_le_mul (by omega) (Nat.le_refl _)
      omega
    · simp only [List.foldl_cons, List.length_cons]
      rw [e, Nat.pow_succ, Nat.add_mul, Nat.mul_comm (256 ^ r.length) 256, ← Nat.mul_assoc]; omega
theorem wide_fold (r : List Nat) : ∀ a, (∀ y ∈ r, y < 256) → wide (r.foldl (fun a c => a * 256 + c) a) r.length = r := by
  induction r with
  | nil => intro a _; rfl
  | cons c r ih =>
    intro a hb
    have hb' : ∀ y ∈ r, y < 256 := fun y hy => hb y (by simp [hy])
    have hc := hb c (by simp)
    obtain ⟨s, hs, e⟩ := fold_form r (a * 256 + c) hb'
    have h2 := ih (a * 256 + c) hb'
    simp only [List.foldl_cons, List.length_cons, wide]
    rw [h2, e]
    have hp : 0 < 256 ^ r.length := Nat.pow_pos (by omega)
    have : ((a * 256 + c) * 256 ^ r.length + s) / 256 ^ r.length = a * 256 + c := by
      rw [Nat.add_comm, Nat.add_mul_div_right _ _ hp, Nat.div_eq_of_lt hs, Nat.zero_add]
    rw [this]
    congr 1; omega
theorem fold_mod (r : List Nat) : ∀ a, (∀ y ∈ r, y < 256) → (a + 1) * 256 ^ r.length ≤ 18446744073709551616 → r.foldl (fun a c => (a * 256 + c) % 18446744073709551616) a = r.foldl (fun a c => a * 256 + c) a := by
  induction r with
  | nil => intro a _ _; rfl
  | cons c r ih =>
    intro a hb h
    have hc := hb c (by simp)
    simp only [List.foldl_cons]
    have hp : 0 < 256 ^ r.length := Nat.pow_pos (by omega)
    simp only [List.length_cons, Nat.pow_succ] at h
    have h2 : (a * 256 + c + 1) * 256 ^ r.length ≤ (a + 1) * (256 ^ r.length * 256) := by
      rw [Nat.mul_comm (256 ^ r.length) 256, ← Nat.mul_assoc]
      exact Nat.mul_le_mul (by omega) (Nat.le_refl _)
    have h3 : a * 256 + c + 1 ≤ (a * 256 + c + 1) * 256 ^ r.length := Nat.le_mul_of_pos_right _ hp
    rw [Nat.mod_eq_of_lt (by omega)]
    exact ih _ (fun y hy => hb y (by simp [hy])) (by omega)
theorem wide_beL {r : List Nat} (hb : ∀ y ∈ r, y < 256) (hl : r.length ≤ 8) : wide (beL r) r.length = r ∧ beL r < 256 ^ r.length := by
  have hpow : 256 ^ r.length ≤ 256 ^ 8 := Nat.pow_le_pow_right (by omega) hl
  have h8 : (256 : Nat) ^ 8 = 18446744073709551616 := (by decide)
  have e : beL r = r.foldl (fun a c => a * 256 + c) 0 := fold_mod r 0 hb (by omega)
  obtain ⟨s, hs, e2⟩ := fold_form r 0 hb
  rw [e]
  exact ⟨wide_fold r 0 hb, by rw [e2]; omega⟩

theorem rNum_one {P : List Nat} {i n v j : Nat} (h : rNum P i 0 n = (v, j, 0)) (hb : ∀ y ∈ P, y < 256) (hn : n ≤ 8) (hi : i ≤ P.length) : wide v n = (P.drop i).take n ∧ j = i + n ∧ j ≤ P.length ∧ v < 256 ^ n := by
  simp only [rNum, ne_eq, not_true_eq_false, if_false] at h
  split at h
  · simp at h
  · rename_i h1
    simp only [Prod.mk.injEq] at h
    obtain ⟨rfl, rfl, _⟩ := h
    have hl : ((P.drop i).take n).length = n := by simp; omega
    have := wide_beL (r := (P.drop i).take n) (fun y hy => hb y (List.mem_of_mem_drop (List.mem_of_mem_take hy))) (by omega)
    rw [hl] at this
    exact ⟨this.1, rfl, by omega, this.2⟩

theorem fuv_one (q : List Nat) : ∀ k a x s, (∀ y ∈ q, y < 256) → fuv q k a = (x, s) → s ≠ 0 → ∃ y, x = a + y * 128 ^ k ∧ k < s ∧ uv y = q.take (s - k) ∧ (0 < k → 0 < y) := by
  induction q with
  | nil => intro k a x s _ h hs; simp [fuv] at h; omega
  | cons c r ih =>
    intro k a x s hb h hs
    have hc := hb c (by simp)
    rw [fuv] at h
    split at h
    · simp at h; omega
    · split at h
      · rename_i h1 h2
        obtain ⟨y, hx, hk, hu, hy⟩ := ih (k + 1) _ x s (fun y hy => hb y (by simp [hy])) h hs
        have hy' := hy (by omega)
        refine ⟨y * 128 + c % 128, ?_, by omega, ?_, fun _ => by omega⟩
        · rw [hx, Nat.pow_succ, Nat.add_mul, Nat.mul_assoc, Nat.mul_comm 128 (128 ^ k)]; omega
        · rw [uv_ge (by omega)]
          have e1 : (y * 128 + c % 128) % 128 + 128 = c := by omega
          have e2 : (y * 128 + c % 128) / 128 = y := by omega
          rw [e1, e2, hu]
          rw [show s - k = (s - (k + 1)) + 1 from by omega, List.take_succ_cons]
      · split at h
        · simp at h; omega
        · rename_i h1 h2 h3
          simp only [Prod.mk.injEq] at h
          obtain ⟨rfl, rfl⟩ := h
          refine ⟨c, by rw [Nat.mod_eq_of_lt (by omega)], by omega, ?_, fun _ => by omega⟩
          rw [uv_lt (by omega), show k + 1 - k = 1 from by omega]
          simp

theorem rUvar_one {P : List Nat} {i v j : Nat} (h : rUvar P i 0 = (v, j, 0)) (hb : ∀ y ∈ P, y < 256) (hi : i ≤ P.length) : uv v = (P.drop i).take (j - i) ∧ i ≤ j ∧ j ≤ P.length ∧ v < 18446744073709551616 := by
  simp only [rUvar, ne_eq, not_true_eq_false, if_false] at h
  split at h
  · simp at h
  · rename_i h1
    simp only [Prod.mk.injEq] at h
    obtain ⟨rfl, rfl, _⟩ := h
    have hle := fuv_le (P.drop i) 0 0
    have hlt := fuv_lt (P.drop i) 0 0 (by decide) (by decide)
    obtain ⟨y, hx, hk, hu, _⟩ := fuv_one (P.drop i) 0 0 _ _ (fun y hy => hb y (List.mem_of_mem_drop hy)) (rfl : fuv (P.drop i) 0 0 = ((fuv (P.drop i) 0 0).1, (fuv (P.drop i) 0 0).2)) h1
    simp only [Nat.pow_zero, Nat.mul_one, Nat.zero_add, Nat.sub_zero] at hx hu
    simp at hle
    exact ⟨by rw [hx, hu]; congr 1; omega, by omega, by omega, hlt⟩

theorem rRaw_one {P : List Nat} {i j : Nat} {n : Int} {q : List Nat} (h : rRaw P i 0 n = (q, j, 0)) (hi : i ≤ P.length) : q = (P.drop i).take (j - i) ∧ i ≤ j ∧ j ≤ P.length := by
  simp only [rRaw, ne_eq, not_true_eq_false, if_false] at h
  split at h
  · simp at h
  · split at h
    · simp at h
    · rename_i h1 h2
      simp only [Prod.mk.injEq] at h
      obtain ⟨rfl, rfl, _⟩ := h
      exact ⟨by congr 1; omega, by omega, by omega⟩

theorem rBlob_one {P : List Nat} {i j : Nat} {n : Int} {q : List Nat} (h : rBlob P i 0 n = (q, j, 0)) (hb : ∀ y ∈ P, y < 256) (hi : i ≤ P.length) : uv q.length ++ q = (P.drop i).take (j - i) ∧ i ≤ j ∧ j ≤ P.length := by
  simp only [rBlob, ne_eq, not_true_eq_false, if_false] at h
  have hle := fuv_le (P.drop i) 0 0
  have hone := fuv_one (P.drop i) 0 0 _ _ (fun y hy => hb y (List.mem_of_mem_drop hy)) (rfl : fuv (P.drop i) 0 0 = ((fuv (P.drop i) 0 0).1, (fuv (P.drop i) 0 0).2))
  obtain ⟨x, s, hf⟩ : ∃ x s, fuv (P.drop i) 0 0 = (x, s) := ⟨_, _, rfl⟩
  rw [hf] at h hle hone
  simp only at h hle hone
  split at h
  · simp at h
  · split at h
    · simp at h
    · split at h
      · simp at h
      · split at h
        · simp at h
        · rename_i h1 h2 h3 h4
          simp only [Prod.mk.injEq] at h
          obtain ⟨rfl, rfl, _⟩ := h
          obtain ⟨y, hx, hk, hu, _⟩ := hone h2
          simp only [Nat.pow_zero, Nat.mul_one, Nat.zero_add, Nat.sub_zero] at hx hu
          subst hx
          simp only [List.length_drop] at hle h4
          have hl : (((P.drop i).drop s).take x).length = x := by simp; omega
          rw [hl, hu, show i + (s + x) - i = s + x from by omega]
          exact ⟨(List.take_add).symm, by omega, by omega⟩
end Go.Proofs.Ytkcanelboloihaa
