import Derived.Test.YtbbjbpjpejekgaaAsk
namespace Go.Proofs.Ytbbjbpjpejekgaa
set_option linter.unusedVariables false
set_option linter.unusedSimpArgs false

theorem fuv_short (x : Nat) : ∀ k a n, n < (uv x).length → (fuv ((uv x).take n) k a).2 = 0 := by
  induction x using uv.induct with
  | case1 x h => intro k a n hn; rw [uv_lt h] at hn ⊢; simp at hn; subst hn; simp [fuv]
  | case2 x h ih =>
    intro k a n hn
    rw [uv_ge (by omega)] at hn ⊢
    cases n with
    | zero => simp [fuv]
    | succ n =>
      simp only [List.take_succ_cons, List.length_cons] at hn ⊢
      rw [fuv]
      split
      · rfl
      · rw [if_pos (by omega)]
        exact ih _ _ n (by omega)

theorem fuv_back (x : Nat) : ∀ k a r, x * 128 ^ k < 18446744073709551616 → k ≤ 9 → (0 < k → 0 < x) → fuv (uv x ++ r) k a = (a + x * 128 ^ k, k + (uv x).length) := by
  have h9 : (128 : Nat) ^ 9 = 9223372036854775808 := (by decide)
  induction x using uv.induct with
  | case1 x h =>
    intro k a r hx hk h0
    rw [uv_lt h]
    simp only [List.cons_append, List.nil_append, List.length_cons, List.length_nil]
    rw [fuv, if_neg, if_neg (by omega), if_neg (by omega), Nat.mod_eq_of_lt h]
    rintro ⟨rfl, h1⟩
    rw [h9] at hx
    have := h0 (by omega); omega
  | case2 x h ih =>
    intro k a r hx hk h0
    rw [uv_ge (by omega)]
    simp only [List.cons_append, List.length_cons]
    have hk9 : k ≠ 9 := by
      rintro rfl
      rw [h9] at hx
      omega
    have hpow : 128 ^ (k + 1) = 128 ^ k * 128 := Nat.pow_succ ..
    have hsum : x % 128 * 128 ^ k + x / 128 * 128 ^ (k + 1) = x * 128 ^ k := by
      rw [hpow, show x / 128 * (128 ^ k * 128) = (x / 128 * 128) * 128 ^ k from by rw [Nat.mul_comm (128 ^ k) 128, Nat.mul_assoc], ← Nat.add_mul]
      congr 1; omega
    rw [fuv, if_neg (by omega), if_pos (by omega), ih (k + 1) _ r (by omega) (by omega) (by omega)]
    have hm : (x % 128 + 128) % 128 = x % 128 := by omega
    rw [hm]
    simp only [Prod.mk.injEq]
    omega

theorem beL_wide (v : Nat) : ∀ n a, n ≤ 8 → a * 256 ^ n + v % 256 ^ n < 18446744073709551616 → (wide v n).foldl (fun a c => (a * 256 + c) % 18446744073709551616) a = a * 256 ^ n + v % 256 ^ n := by
  intro n
  induction n with
  | zero => intro a _ _; simp [wide, Nat.mod_one]
  | succ n ih =>
    intro a hn h
    have hpow : 256 ^ (n + 1) = 256 ^ n * 256 := Nat.pow_succ ..
    have hv : v % 256 ^ (n + 1) = v / 256 ^ n % 256 * 256 ^ n + v % 256 ^ n := by
      rw [hpow, Nat.mod_mul]
      rw [Nat.mul_comm (256 ^ n)]; omega
    have hpos : 0 < 256 ^ n := Nat.pow_pos (by omega)
    have e1 : a * 256 ^ (n + 1) = a * 256 * 256 ^ n := by rw [hpow, Nat.mul_comm (256 ^ n) 256, Nat.mul_assoc]
    have e2 : (a * 256 + v / 256 ^ n % 256) * 256 ^ n = a * 256 * 256 ^ n + v / 256 ^ n % 256 * 256 ^ n := Nat.add_mul ..
    have hle : a * 256 + v / 256 ^ n % 256 ≤ (a * 256 + v / 256 ^ n % 256) * 256 ^ n := Nat.le_mul_of_pos_right _ hpos
    simp only [wide, List.foldl_cons]
    rw [Nat.mod_eq_of_lt (by omega), ih _ (by omega) (by omega)]
    omega

theorem rNum_back {P : List Nat} {i v n : Nat} {r : List Nat} (hd : P.drop i = wide v n ++ r) (hn : n ≤ 8) (hv : v < 256 ^ n) : rNum P i 0 n = (v, i + n, 0) := by
  have h1 := congrArg List.length hd
  simp [wide_len] at h1
  have h2 : (P.drop i).take n = wide v n := by rw [hd]; simp [wide_len, List.take_append]
  have h3 : 256 ^ n ≤ 256 ^ 8 := Nat.pow_le_pow_right (by omega) hn
  have h4 : (256 : Nat) ^ 8 = 18446744073709551616 := (by decide)
  have h5 := beL_wide v n 0 hn (by rw [Nat.mod_eq_of_lt hv]; omega)
  simp only [Nat.zero_mul, Nat.zero_add, Nat.mod_eq_of_lt hv] at h5
  simp only [rNum, ne_eq, not_true_eq_false, if_false]
  rw [if_neg (by omega), h2]
  simp only [beL, h5]
theorem rNum_short {P : List Nat} {i n : Nat} (hd : (P.drop i).length < n) : rNum P i 0 n = (0, i, 3) := by
  simp at hd
  simp [rNum, hd]

theorem rUvar_back {P : List Nat} {i x : Nat} {r : List Nat} (hd : P.drop i = uv x ++ r) (hx : x < 18446744073709551616) : rUvar P i 0 = (x, i + (uv x).length, 0) := by
  have h := fuv_back x 0 0 r (by omega) (by omega) (by omega)
  have hp := uv_pos x
  simp only [rUvar, hd, h, ne_eq, not_true_eq_false, if_false]
  rw [if_neg (by omega)]; simp
theorem rRaw_back {P : List Nat} {i : Nat} {p r : List Nat} (hd : P.drop i = p ++ r) (hi : i ≤ P.length) : rRaw P i 0 p.length = (p, i + p.length, 0) := by
  have h1 := congrArg List.length hd
  simp at h1
  simp only [rRaw, ne_eq, not_true_eq_false, if_false]
  rw [if_neg (by omega), if_neg (by omega), hd]
  simp
theorem rBlob_back {P : List Nat} {i : Nat} {p r : List Nat} {m : Int} (hd : P.drop i = uv p.length ++ p ++ r) (hm : (p.length : Int) ≤ m) (hp : p.length < 18446744073709551616) : rBlob P i 0 m = (p, i + ((uv p.length).length + p.length), 0) := by
  have h := fuv_back p.length 0 0 (p ++ r) (by omega) (by omega) (by omega)
  rw [← List.append_assoc] at h
  have hq := uv_pos p.length
  simp only [rBlob, hd, h, ne_eq, not_true_eq_false, if_false, Nat.zero_add, Nat.pow_zero, Nat.mul_one]
  rw [if_neg (by omega), if_neg (by omega), if_neg (by omega), if_neg (by simp)]
  simp

/-- What was laid is taken off again. -/
theorem rTake_back {P : List Nat} {i : Nat} {k : Int} {x : Nat} {p r : List Nat} {n : Int} (hd : P.drop i = layB k x p ++ r) (hi : i ≤ P.length) (hk : 1 ≤ k ∧ k ≤ 7) (hx : x < 18446744073709551616) (hp : p.length < 18446744073709551616)
    (h6 : k = 6 → n = p.length) (h7 : k = 7 → (p.length : Int) ≤ n) :
    rTake P i 0 k n = (if k ≤ 5 then cutN k x else 0, if k ≤ 5 then [] else p, i + (layB k x p).length, 0) := by
  rcases kinds7 k with rfl | rfl | rfl | rfl | rfl | rfl | rfl | ⟨h1, h2, h3, h4, h5, h6', h7'⟩
  · have hb : layB 1 x p = wide (x % 256) 1 := rfl
    rw [hb] at hd ⊢
    have := rNum_back hd (by omega) (by omega)
    simp [rTake, this, wide_len, cutN]
  · have hb : layB 2 x p = wide (x % 65536) 2 := rfl
    rw [hb] at hd ⊢
    have := rNum_back hd (by omega) (by omega)
    simp [rTake, this, wide_len, cutN]
  · have hb : layB 3 x p = wide (x % 4294967296) 4 := rfl
    rw [hb] at hd ⊢
    have := rNum_back hd (by omega) (by omega)
    simp [rTake, this, wide_len, cutN]
  · have hb : layB 4 x p = wide x 8 := rfl
    rw [hb] at hd ⊢
    have := rNum_back hd (by omega) (by omega)
    simp [rTake, this, wide_len, cutN]
  · have hb : layB 5 x p = uv x := rfl
    rw [hb] at hd ⊢
    have := rUvar_back hd hx
    simp [rTake, this, cutN]
  · have hb : layB 6 x p = p := rfl
    rw [hb] at hd ⊢
    have := rRaw_back hd hi
    rw [h6 rfl]
    simp [rTake, this]
  · have hb : layB 7 x p = uv p.length ++ p := rfl
    rw [hb] at hd ⊢
    have := rBlob_back hd (h7 rfl) hp
    simp [rTake, this]
  · omega

theorem rRaw_short {P : List Nat} {i n : Nat} (hd : (P.drop i).length < n) (hi : i ≤ P.length) : rRaw P i 0 n = ([], i, 3) := by
  simp at hd
  simp only [rRaw, ne_eq, not_true_eq_false, if_false]
  rw [if_neg (by omega), if_pos (by omega)]

/-- All that is shorter is refused at its beginning. -/
theorem rTake_short {P : List Nat} {i : Nat} {k : Int} {x : Nat} {p : List Nat} {n : Nat} (hd : P.drop i = (layB k x p).take n) (hn : n < (layB k x p).length) (hi : i ≤ P.length) (hk : 1 ≤ k ∧ k ≤ 7) (hx : x < 18446744073709551616) (hp : p.length < 18446744073709551616) :
    rTake P i 0 k p.length = (0, [], i, 3) := by
  have hl : (P.drop i).length = n := by rw [hd, List.length_take]; omega
  rcases kinds7 k with rfl | rfl | rfl | rfl | rfl | rfl | rfl | ⟨h1, h2, h3, h4, h5, h6', h7'⟩
  · have hb : layB 1 x p = wide (x % 256) 1 := rfl
    rw [hb, wide_len] at hn
    have := rNum_short (P := P) (i := i) (n := 1) (by omega)
    simp [rTake, this]
  · have hb : layB 2 x p = wide (x % 65536) 2 := rfl
    rw [hb, wide_len] at hn
    have := rNum_short (P := P) (i := i) (n := 2) (by omega)
    simp [rTake, this]
  · have hb : layB 3 x p = wide (x % 4294967296) 4 := rfl
    rw [hb, wide_len] at hn
    have := rNum_short (P := P) (i := i) (n := 4) (by omega)
    simp [rTake, this]
  · have hb : layB 4 x p = wide x 8 := rfl
    rw [hb, wide_len] at hn
    have := rNum_short (P := P) (i := i) (n := 8) (by omega)
    simp [rTake, this]
  · have hb : layB 5 x p = uv x := rfl
    rw [hb] at hn hd
    have := fuv_short x 0 0 n hn
    simp [rTake, rUvar, hd, this]
  · have hb : layB 6 x p = p := rfl
    rw [hb] at hn
    have := rRaw_short (P := P) (i := i) (n := p.length) (by omega) hi
    simp [rTake, this]
  · have hb : layB 7 x p = uv p.length ++ p := rfl
    rw [hb] at hn hd
    simp only [List.length_append] at hn
    have key : rBlob P i 0 p.length = ([], i, 3) := by
      simp only [rBlob, hd, ne_eq, not_true_eq_false, if_false]
      rw [if_neg (by omega)]
      by_cases hu : n < (uv p.length).length
      · have e : (uv p.length ++ p).take n = (uv p.length).take n := by rw [List.take_append_of_le_length (by omega)]
        rw [e, if_pos (fuv_short p.length 0 0 n hu)]
      · have e : (uv p.length ++ p).take n = uv p.length ++ p.take (n - (uv p.length).length) := by
          rw [List.take_append, List.take_of_length_le (by omega)]
        have h := fuv_back p.length 0 0 (p.take (n - (uv p.length).length)) (by omega) (by omega) (by omega)
        have hq := uv_pos p.length
        rw [e, h]
        simp only [Nat.zero_add, Nat.pow_zero, Nat.mul_one]
        rw [if_neg (by omega), if_neg (by omega), if_pos (by simp; omega)]
    simp [rTake, key]
  · omega
end Go.Proofs.Ytbbjbpjpejekgaa
