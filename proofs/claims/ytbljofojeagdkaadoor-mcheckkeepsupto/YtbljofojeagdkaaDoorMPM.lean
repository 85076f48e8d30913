import Derived.Test.YtbljofojeagdkaaDoorMTMath
namespace Go.Proofs.YtbljofojeagdkaaDoor
set_option linter.unusedVariables false
set_option linter.unusedSimpArgs false

theorem belT_half {n c : Nat} (h2 : 2 ≤ n) (hn : n ≤ 2 ^ (c + 1)) : belT n ≤ 2 ^ c ∧ n - belT n ≤ 2 ^ c := by
  have h := belT_lt h2
  have h1 : belT n ≤ 2 ^ c := by
    unfold belT
    refine Nat.pow_le_pow_right (by omega) ?_
    have := (Nat.log2_lt (n := n - 1) (k := c + 1) (by omega)).2 (by omega)
    omega
  exact ⟨h1, by omega⟩
/-- The ranges of an inclusion proof, from the leaf up. -/
def pathF (i : Nat) : Nat → Nat → Nat → List (Nat × Nat)
  | 0, _, _ => []
  | c + 1, lo, hi => if hi - lo ≤ 1 then [] else if i < lo + belT (hi - lo) then pathF i c lo (lo + belT (hi - lo)) ++ [(lo + belT (hi - lo), hi)] else pathF i c (lo + belT (hi - lo)) hi ++ [(lo, lo + belT (hi - lo))]
theorem pathF_one (i c : Nat) {lo hi : Nat} (h : hi - lo ≤ 1) : pathF i c lo hi = [] := by
  cases c with
  | zero => rfl
  | succ c => rw [pathF, if_pos h]
theorem pathF_l {i c lo hi : Nat} (h : ¬ hi - lo ≤ 1) (hi' : i < lo + belT (hi - lo)) : pathF i (c + 1) lo hi = pathF i c lo (lo + belT (hi - lo)) ++ [(lo + belT (hi - lo), hi)] := by
  rw [pathF, if_neg h, if_pos hi']
theorem pathF_r {i c lo hi : Nat} (h : ¬ hi - lo ≤ 1) (hi' : ¬ i < lo + belT (hi - lo)) : pathF i (c + 1) lo hi = pathF i c (lo + belT (hi - lo)) hi ++ [(lo, lo + belT (hi - lo))] := by
  rw [pathF, if_neg h, if_neg hi']
theorem pathF_len (i : Nat) : ∀ (c lo hi : Nat), (pathF i c lo hi).length ≤ c
  | 0, _, _ => Nat.le_refl _
  | c + 1, lo, hi => by
    by_cases h : hi - lo ≤ 1
    · rw [pathF_one i _ h]; simp
    · by_cases hi' : i < lo + belT (hi - lo)
      · rw [pathF_l h hi', List.length_append]; have := pathF_len i c lo (lo + belT (hi - lo)); simp; omega
      · rw [pathF_r h hi', List.length_append]; have := pathF_len i c (lo + belT (hi - lo)) hi; simp; omega
theorem pathF_in (i : Nat) : ∀ (c lo hi : Nat), ∀ s ∈ pathF i c lo hi, lo ≤ s.1 ∧ s.1 < s.2 ∧ s.2 ≤ hi
  | 0, _, _, s, hs => by simp [pathF] at hs
  | c + 1, lo, hi, s, hs => by
    by_cases h : hi - lo ≤ 1
    · rw [pathF_one i _ h] at hs; simp at hs
    · have hb := belT_lt (n := hi - lo) (by omega)
      by_cases hi' : i < lo + belT (hi - lo)
      · rw [pathF_l h hi', List.mem_append, List.mem_singleton] at hs
        rcases hs with hs | rfl
        · have := pathF_in i c _ _ s hs; omega
        · show lo ≤ lo + belT (hi - lo) ∧ lo + belT (hi - lo) < hi ∧ hi ≤ hi
          omega
      · rw [pathF_r h hi', List.mem_append, List.mem_singleton] at hs
        rcases hs with hs | rfl
        · have := pathF_in i c _ _ s hs; omega
        · show lo ≤ lo ∧ lo < lo + belT (hi - lo) ∧ lo + belT (hi - lo) ≤ hi
          omega
theorem pathF_fuel (i : Nat) : ∀ (c lo hi : Nat), hi - lo ≤ 2 ^ c → pathF i (c + 1) lo hi = pathF i c lo hi
  | 0, lo, hi, h => by rw [pathF_one i _ (by simpa using h), pathF_one i _ (by simpa using h)]
  | c + 1, lo, hi, h => by
    by_cases h1 : hi - lo ≤ 1
    · rw [pathF_one i _ h1, pathF_one i _ h1]
    · have hb := belT_half (n := hi - lo) (c := c) (by omega) h
      have hb2 := belT_lt (n := hi - lo) (by omega)
      by_cases hi' : i < lo + belT (hi - lo)
      · rw [pathF_l h1 hi', pathF_l h1 hi', pathF_fuel i c _ _ (by omega)]
      · rw [pathF_r h1 hi', pathF_r h1 hi', pathF_fuel i c _ _ (by omega)]
/-- The brother's number of the node on the way at a height. -/
def broN (i h : Nat) : Nat := if i / 2 ^ h % 2 = 0 then i / 2 ^ h + 1 else i / 2 ^ h - 1
def broS (N i h : Nat) : Option (Nat × Nat) := if broN i h * 2 ^ h < N then some (broN i h * 2 ^ h, min ((broN i h + 1) * 2 ^ h) N) else none
def levs (N i c : Nat) : List (Nat × Nat) := (List.range c).filterMap (broS N i)
theorem levs_succ (N i c : Nat) : levs N i (c + 1) = levs N i c ++ (broS N i c).toList := by
  unfold levs
  rw [List.range_succ, List.filterMap_append]
  cases h : broS N i c <;> simp [List.filterMap_cons, h]
/-- From above as from below. -/
theorem path_levs (N i : Nat) : ∀ (c lo hi : Nat), lo ≤ i → i < hi → 2 ^ c ∣ lo → hi - lo ≤ 2 ^ c → hi ≤ N → (hi = N ∨ hi - lo = 2 ^ c) → pathF i c lo hi = levs N i c
  | 0, lo, hi, _, _, _, _, _, _ => rfl
  | c + 1, lo, hi, h1, h2, h3, h4, h5, h6 => by
    obtain ⟨q, rfl⟩ := h3
    have hp : 1 ≤ 2 ^ c := Nat.one_le_two_pow
    have hps : 2 ^ (c + 1) = 2 * 2 ^ c := by rw [Nat.pow_succ]; omega
    have hlo : 2 ^ (c + 1) * q = 2 ^ c * (2 * q) := by rw [hps, Nat.mul_assoc, Nat.mul_left_comm]
    rw [levs_succ]
    by_cases hn : hi - 2 ^ (c + 1) * q ≤ 2 ^ c
    · have hN : hi = N := by omega
      rw [pathF_fuel i c _ _ hn, path_levs N i c _ hi h1 h2 ⟨2 * q, hlo⟩ hn h5 (Or.inl hN)]
      have hd : i / 2 ^ c = 2 * q := by
        obtain ⟨r, hr⟩ : ∃ r, i = 2 ^ c * (2 * q) + r := ⟨i - 2 ^ c * (2 * q), by omega⟩
        rw [hr, Nat.mul_add_div (by omega), Nat.div_eq_of_lt (by omega)]; rfl
      have hb : broN i c * 2 ^ c = 2 ^ c * (2 * q) + 2 ^ c := by
        unfold broN
        rw [hd, if_pos (by omega), Nat.mul_comm, Nat.mul_add, Nat.mul_one]
      have : broS N i c = none := by
        unfold broS
        rw [if_neg (by rw [hb]; omega)]
      rw [this]; simp
    · have hbel : belT (hi - 2 ^ (c + 1) * q) = 2 ^ c := by
        unfold belT
        congr 1
        rw [Nat.log2_eq_iff (by omega)]
        omega
      have hge : ¬ hi - 2 ^ (c + 1) * q ≤ 1 := by omega
      by_cases hm : i < 2 ^ (c + 1) * q + 2 ^ c
      · rw [pathF_l hge (by rw [hbel]; exact hm), hbel, path_levs N i c _ _ h1 hm ⟨2 * q, hlo⟩ (by omega) (by omega) (Or.inr (by omega))]
        have hd : i / 2 ^ c = 2 * q := by
          obtain ⟨r, hr⟩ : ∃ r, i = 2 ^ c * (2 * q) + r := ⟨i - 2 ^ c * (2 * q), by omega⟩
          rw [hr, Nat.mul_add_div (by omega), Nat.div_eq_of_lt (by omega)]; rfl
        have hbn : broN i c = 2 * q + 1 := by unfold broN; rw [hd, if_pos (by omega)]
        have e1 : (2 * q + 1) * 2 ^ c = 2 ^ c * (2 * q) + 2 ^ c := by rw [Nat.mul_comm, Nat.mul_add, Nat.mul_one]
        have e2 : (2 * q + 1 + 1) * 2 ^ c = 2 ^ c * (2 * q) + 2 * 2 ^ c := by rw [Nat.add_assoc, Nat.add_mul, Nat.mul_comm (2 * q)]
        unfold broS
        rw [hbn, e1, e2, if_pos (by omega), ← hlo, Nat.min_def]
        split
        · have : hi = 2 ^ (c + 1) * q + 2 * 2 ^ c := by omega
          simp [this]
        · have : hi = N := by omega
          simp [this]
      · rw [pathF_r hge (by rw [hbel]; exact hm), hbel, path_levs N i c _ _ (by omega) h2 ⟨2 * q + 1, by rw [hlo, Nat.mul_add, Nat.mul_one]⟩ (by omega) h5 (by omega)]
        have hd : i / 2 ^ c = 2 * q + 1 := by
          obtain ⟨r, hr⟩ : ∃ r, i = 2 ^ c * (2 * q + 1) + r := ⟨i - 2 ^ c * (2 * q + 1), by rw [Nat.mul_add]; omega⟩
          have : r < 2 ^ c := by rw [Nat.mul_add] at hr; omega
          rw [hr, Nat.mul_add_div (by omega), Nat.div_eq_of_lt this]
        have hbn : broN i c = 2 * q := by unfold broN; rw [hd, if_neg (by omega), Nat.add_sub_cancel]
        have e1 : 2 * q * 2 ^ c = 2 ^ c * (2 * q) := by rw [Nat.mul_comm]
        have e2 : (2 * q + 1) * 2 ^ c = 2 ^ c * (2 * q) + 2 ^ c := by rw [Nat.mul_comm, Nat.mul_add, Nat.mul_one]
        unfold broS
        rw [hbn, e1, e2, if_pos (by omega), ← hlo, Nat.min_eq_left (by omega)]
        simp
theorem path_all {N i c : Nat} (hi : i < N) (hN : N ≤ 2 ^ c) : pathF i c 0 N = levs N i c := path_levs N i c 0 N (by omega) hi (Nat.dvd_zero _) (by omega) (Nat.le_refl _) (Or.inl rfl)
/-- How many brothers the node i of n has on its way up. -/
def stL : Nat → Nat → Nat → Nat
  | 0, _, _ => 0
  | c + 1, i, n => if n ≤ 1 then 0 else (if i % 2 = 1 ∨ i + 1 < n then 1 else 0) + stL c (i / 2) (n / 2 + n % 2)
theorem bro_up (N i h : Nat) : (broN i (h + 1) * 2 ^ (h + 1) < N) = (broN (i / 2) h * 2 ^ h < N / 2 + N % 2) := by
  have e : i / 2 ^ (h + 1) = i / 2 / 2 ^ h := by rw [Nat.pow_succ, Nat.mul_comm, Nat.div_div_eq_div_mul]
  have e2 : broN i (h + 1) = broN (i / 2) h := by unfold broN; rw [e]
  rw [e2, Nat.pow_succ, ← Nat.mul_assoc]
  generalize broN (i / 2) h * 2 ^ h = y
  apply propext
  omega
theorem levs_len (N i c : Nat) : (levs N i c).length = ((List.range c).filter (fun h => decide (broN i h * 2 ^ h < N))).length := by
  unfold levs
  induction List.range c with
  | nil => rfl
  | cons h r ih =>
    rw [List.filterMap_cons, List.filter_cons]
    by_cases hb : broN i h * 2 ^ h < N
    · have hs : broS N i h = some (broN i h * 2 ^ h, min ((broN i h + 1) * 2 ^ h) N) := by unfold broS; rw [if_pos hb]
      simp only [hs, decide_eq_true hb, List.length_cons, if_true, ih]
    · have hs : broS N i h = none := by unfold broS; rw [if_neg hb]
      simp only [hs, decide_eq_false hb, Bool.false_eq_true, if_false, ih]
theorem levs_steps : ∀ (c i N : Nat), i < N → N ≤ 2 ^ c → (levs N i c).length = stL c i N
  | 0, i, N, _, _ => rfl
  | c + 1, i, N, h1, h2 => by
    have hps : 2 ^ (c + 1) = 2 * 2 ^ c := by rw [Nat.pow_succ]; omega
    have ih := levs_steps c (i / 2) (N / 2 + N % 2) (by omega) (by omega)
    rw [levs_len] at ih ⊢
    rw [List.range_succ_eq_map, List.filter_cons, List.filter_map, stL]
    have e : ((fun h => decide (broN i h * 2 ^ h < N)) ∘ Nat.succ) = (fun h => decide (broN (i / 2) h * 2 ^ h < N / 2 + N % 2)) := by
      funext h
      simp only [Function.comp, Nat.succ_eq_add_one, bro_up N i h]
    have e0 : (broN i 0 * 2 ^ 0 < N) ↔ (i % 2 = 1 ∨ i + 1 < N) := by
      unfold broN
      rw [Nat.pow_zero, Nat.div_one, Nat.mul_one]
      split <;> omega
    by_cases hN : N ≤ 1
    · have hi : i = 0 := by omega
      subst hi
      rw [if_pos hN, e, decide_eq_false (by rw [e0]; omega)]
      have hN1 : N / 2 + N % 2 = 1 := by omega
      have : ∀ h ∈ List.range c, ¬ (decide (broN (0 / 2) h * 2 ^ h < N / 2 + N % 2) = true) := by
        intro h _
        rw [hN1]
        have hp : 1 ≤ 2 ^ h := Nat.one_le_two_pow
        simp [broN]
      rw [List.filter_eq_nil_iff.2 this]
      rfl
    · rw [if_neg hN, e]
      by_cases hb : i % 2 = 1 ∨ i + 1 < N
      · rw [decide_eq_true (e0.2 hb), if_pos rfl, if_pos hb, List.length_cons, List.length_map, ih]; omega
      · rw [decide_eq_false (fun h => hb (e0.1 h)), if_neg hb]
        simp only [Bool.false_eq_true, if_false, List.length_map]
        rw [ih]; omega
/-- The ranges of a consistency proof. -/
def seamF (m : Nat) : Nat → Nat → Nat → Bool → List (Nat × Nat)
  | 0, lo, hi, wh => if wh then [] else [(lo, hi)]
  | c + 1, lo, hi, wh => if m = hi then (if wh then [] else [(lo, hi)]) else if m ≤ lo + belT (hi - lo) then seamF m c lo (lo + belT (hi - lo)) wh ++ [(lo + belT (hi - lo), hi)] else seamF m c (lo + belT (hi - lo)) hi false ++ [(lo, lo + belT (hi - lo))]
theorem seamF_end {m c lo hi : Nat} {wh : Bool} (h : m = hi) : seamF m c lo hi wh = if wh then [] else [(lo, hi)] := by
  cases c with
  | zero => rfl
  | succ c => rw [seamF, if_pos h]
theorem seamF_l {m c lo hi : Nat} {wh : Bool} (h : ¬ m = hi) (h2 : m ≤ lo + belT (hi - lo)) : seamF m (c + 1) lo hi wh = seamF m c lo (lo + belT (hi - lo)) wh ++ [(lo + belT (hi - lo), hi)] := by
  rw [seamF, if_neg h, if_pos h2]
theorem seamF_r {m c lo hi : Nat} {wh : Bool} (h : ¬ m = hi) (h2 : ¬ m ≤ lo + belT (hi - lo)) : seamF m (c + 1) lo hi wh = seamF m c (lo + belT (hi - lo)) hi false ++ [(lo, lo + belT (hi - lo))] := by
  rw [seamF, if_neg h, if_neg h2]
theorem seamF_len (m : Nat) : ∀ (c lo hi : Nat) (wh : Bool), (seamF m c lo hi wh).length ≤ c + 1
  | 0, lo, hi, wh => by unfold seamF; split <;> simp
  | c + 1, lo, hi, wh => by
    by_cases h : m = hi
    · rw [seamF_end h]; split <;> simp
    · by_cases h2 : m ≤ lo + belT (hi - lo)
      · rw [seamF_l h h2, List.length_append]; have := seamF_len m c lo (lo + belT (hi - lo)) wh; simp; omega
      · rw [seamF_r h h2, List.length_append]; have := seamF_len m c (lo + belT (hi - lo)) hi false; simp; omega
theorem seamF_in (m : Nat) : ∀ (c lo hi : Nat) (wh : Bool), lo < m → m ≤ hi → hi - lo ≤ 2 ^ c → ∀ s ∈ seamF m c lo hi wh, lo ≤ s.1 ∧ s.1 < s.2 ∧ s.2 ≤ hi
  | 0, lo, hi, wh, h1, h2, h3, s, hs => by
    unfold seamF at hs
    split at hs
    · simp at hs
    · rw [List.mem_singleton] at hs; subst hs; simp; omega
  | c + 1, lo, hi, wh, h1, h2, h3, s, hs => by
    by_cases h : m = hi
    · rw [seamF_end h] at hs
      split at hs
      · simp at hs
      · rw [List.mem_singleton] at hs; subst hs; simp; omega
    · have hb := belT_lt (n := hi - lo) (by omega)
      have hb2 := belT_half (n := hi - lo) (c := c) (by omega) h3
      by_cases h4 : m ≤ lo + belT (hi - lo)
      · rw [seamF_l h h4, List.mem_append, List.mem_singleton] at hs
        rcases hs with hs | rfl
        · have := seamF_in m c _ _ _ h1 h4 (by omega) s hs; omega
        · show lo ≤ lo + belT (hi - lo) ∧ lo + belT (hi - lo) < hi ∧ hi ≤ hi
          omega
      · rw [seamF_r h h4, List.mem_append, List.mem_singleton] at hs
        rcases hs with hs | rfl
        · have := seamF_in m c _ _ _ (by omega) h2 (by omega) s hs; omega
        · show lo ≤ lo ∧ lo < lo + belT (hi - lo) ∧ lo + belT (hi - lo) ≤ hi
          omega
def sinL : Nat → Nat → Nat → Bool → Nat
  | 0, _, _, wh => if wh then 0 else 1
  | c + 1, m, n, wh => if m = n then (if wh then 0 else 1) else 1 + (if m ≤ belT n then sinL c m (belT n) wh else sinL c (m - belT n) (n - belT n) false)
theorem seam_sin (m : Nat) : ∀ (c lo hi : Nat) (wh : Bool), lo < m → m ≤ hi → hi - lo ≤ 2 ^ c → (seamF m c lo hi wh).length = sinL c (m - lo) (hi - lo) wh
  | 0, lo, hi, wh, _, _, _ => by unfold seamF sinL; split <;> rfl
  | c + 1, lo, hi, wh, h1, h2, h3 => by
    by_cases h : m = hi
    · rw [seamF_end h]
      unfold sinL
      rw [if_pos (show m - lo = hi - lo by omega)]
      cases wh <;> rfl
    · have hb := belT_lt (n := hi - lo) (by omega)
      have hb2 := belT_half (n := hi - lo) (c := c) (by omega) h3
      rw [sinL, if_neg (by omega)]
      by_cases h4 : m ≤ lo + belT (hi - lo)
      · rw [seamF_l h h4, List.length_append, seam_sin m c _ _ _ h1 h4 (by omega), if_pos (by omega), show lo + belT (hi - lo) - lo = belT (hi - lo) by omega]
        simp; omega
      · rw [seamF_r h h4, List.length_append, seam_sin m c _ _ _ (by omega) h2 (by omega), if_neg (by omega), show m - (lo + belT (hi - lo)) = m - lo - belT (hi - lo) by omega, show hi - (lo + belT (hi - lo)) = hi - lo - belT (hi - lo) by omega]
        simp; omega
end Go.Proofs.YtbljofojeagdkaaDoor
