/-
  Sets of digits as bitmaps: plain reckoning. No program, no model.
-/
import Derived.Laws.BitsAllLaws
namespace Go.Proofs.YtjafmnemobcipaaDoor

/-- The set of i alone. -/
def al (i : Int) : Nat := if 0 ≤ i ∧ i ≤ 15 then 2 ^ i.toNat else 0
/-- Is i in the set? -/
def hasB (b : Nat) (i : Int) : Bool := decide (0 ≤ i) && (decide (i ≤ 15) && b.testBit i.toNat)
/-- The members below k. -/
def setB (b : Nat) : Nat → List Nat
  | 0 => []
  | k + 1 => if b.testBit k then setB b k ++ [k] else setB b k
/-- How many there are below k. -/
def cnt (b : Nat) (k : Nat) : Nat := (setB b k).length
def rankB (b : Nat) (i : Int) : Nat := if i < 0 then 0 else cnt b (if i ≤ 15 then i.toNat else 16)
def withB (b : Nat) (i : Int) : Nat := if 0 ≤ i ∧ i ≤ 15 ∧ b.testBit i.toNat = false then b + 2 ^ i.toNat else b
def outB (b : Nat) (i : Int) : Nat := if 0 ≤ i ∧ i ≤ 15 ∧ b.testBit i.toNat = true then b - 2 ^ i.toNat else b

theorem al_in {i : Nat} (h : i ≤ 15) : al (i : Int) = 2 ^ i := by unfold al; rw [if_pos (by omega), Int.toNat_natCast]
theorem al_out {i : Int} (h : ¬ (0 ≤ i ∧ i ≤ 15)) : al i = 0 := by unfold al; rw [if_neg h]
theorem al_lt (i : Int) : al i < 65536 := by
  unfold al
  split
  · have : 2 ^ i.toNat ≤ 2 ^ 15 := Nat.pow_le_pow_right (by decide) (by omega)
    omega
  · decide
theorem cnt_succ (b k : Nat) : cnt b (k + 1) = cnt b k + if b.testBit k then 1 else 0 := by
  unfold cnt; simp only [setB]; split <;> simp
theorem cnt_le (b : Nat) : ∀ k, cnt b k ≤ k
  | 0 => Nat.le_refl _
  | k + 1 => by rw [cnt_succ]; have := cnt_le b k; split <;> omega
theorem setB_mem (b : Nat) : ∀ (k j : Nat), j ∈ setB b k ↔ j < k ∧ b.testBit j = true
  | 0, j => by simp [setB]
  | k + 1, j => by
    unfold setB
    split
    · rename_i h
      rw [List.mem_append, setB_mem b k j]
      simp only [List.mem_singleton]
      constructor
      · rintro (⟨h1, h2⟩ | rfl)
        · exact ⟨by omega, h2⟩
        · exact ⟨by omega, h⟩
      · rintro ⟨h1, h2⟩
        rcases Nat.lt_or_ge j k with g | g
        · exact Or.inl ⟨g, h2⟩
        · exact Or.inr (by omega)
    · rename_i h
      rw [setB_mem b k j]
      constructor
      · rintro ⟨h1, h2⟩; exact ⟨by omega, h2⟩
      · rintro ⟨h1, h2⟩
        rcases Nat.lt_or_ge j k with g | g
        · exact ⟨g, h2⟩
        · rw [show j = k by omega] at h2; exact absurd h2 h
theorem cnt_congr {b c : Nat} : ∀ k, (∀ j, j < k → b.testBit j = c.testBit j) → cnt b k = cnt c k
  | 0, _ => rfl
  | k + 1, h => by rw [cnt_succ, cnt_succ, cnt_congr k (fun j hj => h j (by omega)), h k (by omega)]
theorem cnt_beyond {b : Nat} (k : Nat) (h : ∀ j, k ≤ j → b.testBit j = false) : ∀ d, cnt b (k + d) = cnt b k
  | 0 => rfl
  | d + 1 => by rw [← Nat.add_assoc, cnt_succ, cnt_beyond k h d, h (k + d) (by omega)]; simp
theorem cnt_mod {b k : Nat} (hk : k ≤ 16) : cnt (b % 2 ^ k) 16 = cnt b k := by
  have h1 : cnt (b % 2 ^ k) (k + (16 - k)) = cnt (b % 2 ^ k) k := cnt_beyond k (fun j hj => by rw [Nat.testBit_mod_two_pow]; simp; omega) _
  rw [show k + (16 - k) = 16 by omega] at h1
  rw [h1]
  exact cnt_congr k (fun j hj => by rw [Nat.testBit_mod_two_pow]; simp [hj])
theorem cnt_split (b : Nat) : cnt b 16 = cnt (b / 256) 8 + cnt (b % 256) 8 := by
  have h1 : ∀ k, k ≤ 8 → cnt b (8 + k) = cnt b 8 + cnt (b / 256) k := by
    intro k hk
    induction k with
    | zero => rfl
    | succ k ih =>
      have e : (b / 256).testBit k = b.testBit (8 + k) := by rw [show (256 : Nat) = 2 ^ 8 by rfl, Nat.testBit_div_two_pow, Nat.add_comm k 8]
      rw [← Nat.add_assoc, cnt_succ, ih (by omega), cnt_succ (b / 256) k, e, Nat.add_assoc]
  rw [h1 8 (by omega), Nat.add_comm]
  congr 1
  exact cnt_congr 8 (fun j hj => by rw [show (256 : Nat) = 2 ^ 8 by rfl, Nat.testBit_mod_two_pow]; simp [hj])
theorem and_al (b : Nat) (i : Nat) : b &&& 2 ^ i = if b.testBit i then 2 ^ i else 0 := by
  apply Nat.eq_of_testBit_eq
  intro j
  rw [Nat.testBit_and, Nat.testBit_two_pow]
  by_cases h : i = j
  · subst h; cases hb : b.testBit i <;> simp
  · cases hb : b.testBit i <;> simp [h]
theorem bit_add {b i : Nat} (hb : b.testBit i = false) (j : Nat) : (b + 2 ^ i).testBit j = (b.testBit j || decide (i = j)) := by
  have hp := Nat.two_pow_pos i
  obtain ⟨c, r, hr, rfl⟩ : ∃ c r, r < 2 ^ i ∧ b = 2 ^ i * c + r := ⟨b / 2 ^ i, b % 2 ^ i, Nat.mod_lt _ hp, (Nat.div_add_mod _ _).symm⟩
  rw [Nat.testBit_two_pow_mul_add c hr, if_neg (by omega), Nat.sub_self, Nat.testBit_zero] at hb
  have hc : c % 2 = 0 := by simpa using hb
  have e : 2 ^ i * c + r + 2 ^ i = 2 ^ i * (c + 1) + r := by rw [Nat.mul_add]; omega
  rw [e, Nat.testBit_two_pow_mul_add _ hr, Nat.testBit_two_pow_mul_add _ hr]
  by_cases h : j < i
  · rw [if_pos h, if_pos h]; simp; omega
  · rw [if_neg h, if_neg h]
    by_cases g : i = j
    · subst g; rw [Nat.sub_self, Nat.testBit_zero, Nat.testBit_zero]; simp; omega
    · obtain ⟨k, hk⟩ : ∃ k, j - i = k + 1 := ⟨j - i - 1, by omega⟩
      rw [hk, Nat.testBit_succ, Nat.testBit_succ, show (c + 1) / 2 = c / 2 by omega]; simp [g]
theorem bit_ge {b i : Nat} (h : b.testBit i = true) : 2 ^ i ≤ b := Nat.ge_two_pow_of_testBit h
theorem bit_sub {b i : Nat} (hb : b.testBit i = true) (j : Nat) : (b - 2 ^ i).testBit j = (b.testBit j && !decide (i = j)) := by
  have h0 := bit_ge hb
  have hp := Nat.two_pow_pos i
  obtain ⟨c, r, hr, rfl⟩ : ∃ c r, r < 2 ^ i ∧ b = 2 ^ i * c + r := ⟨b / 2 ^ i, b % 2 ^ i, Nat.mod_lt _ hp, (Nat.div_add_mod _ _).symm⟩
  rw [Nat.testBit_two_pow_mul_add c hr, if_neg (by omega), Nat.sub_self, Nat.testBit_zero] at hb
  have hc : c % 2 = 1 := by simpa using hb
  obtain ⟨e, rfl⟩ : ∃ e, c = e + 1 := ⟨c - 1, by omega⟩
  have e' : 2 ^ i * (e + 1) + r - 2 ^ i = 2 ^ i * e + r := by rw [Nat.mul_add]; omega
  rw [e', Nat.testBit_two_pow_mul_add _ hr, Nat.testBit_two_pow_mul_add _ hr]
  by_cases h : j < i
  · rw [if_pos h, if_pos h]; simp; omega
  · rw [if_neg h, if_neg h]
    by_cases g : i = j
    · subst g; rw [Nat.sub_self, Nat.testBit_zero, Nat.testBit_zero]; simp; omega
    · obtain ⟨k, hk⟩ : ∃ k, j - i = k + 1 := ⟨j - i - 1, by omega⟩
      rw [hk, Nat.testBit_succ, Nat.testBit_succ, show (e + 1) / 2 = e / 2 by omega]; simp [g]
theorem or_al (b : Nat) (i : Nat) : b ||| 2 ^ i = if b.testBit i then b else b + 2 ^ i := by
  cases hb : b.testBit i with
  | true =>
    rw [if_pos rfl]
    apply Nat.eq_of_testBit_eq
    intro j
    rw [Nat.testBit_or, Nat.testBit_two_pow]
    by_cases h : i = j
    · subst h; simp [hb]
    · simp [h]
  | false =>
    rw [if_neg (by simp)]
    apply Nat.eq_of_testBit_eq
    intro j
    rw [Nat.testBit_or, Nat.testBit_two_pow, bit_add hb]
theorem and_al_int (b : Nat) (i : Int) : (b &&& al i != 0) = hasB b i := by
  unfold hasB
  by_cases h : 0 ≤ i ∧ i ≤ 15
  · obtain ⟨k, rfl⟩ : ∃ k : Nat, i = k := ⟨i.toNat, by omega⟩
    rw [al_in (by omega), and_al, Int.toNat_natCast]
    have hp := Nat.two_pow_pos k
    have h1 : decide ((0 : Int) ≤ k) = true := by simp
    have h2 : decide ((k : Int) ≤ 15) = true := by simp; omega
    rw [h1, h2]
    cases hb : b.testBit k <;> simp
  · rw [al_out h, Nat.and_zero]
    by_cases h0 : 0 ≤ i
    · have : ¬ i ≤ 15 := by omega
      simp [this]
    · simp [h0]
theorem or_al_int (b : Nat) (i : Int) : b ||| al i = withB b i := by
  unfold withB
  by_cases h : 0 ≤ i ∧ i ≤ 15
  · obtain ⟨k, rfl⟩ : ∃ k : Nat, i = k := ⟨i.toNat, by omega⟩
    rw [al_in (by omega), or_al, Int.toNat_natCast]
    cases hb : b.testBit k <;> simp <;> omega
  · rw [al_out h, Nat.or_zero, if_neg (by omega)]
theorem bit_top {b j : Nat} (hb : b < 65536) (hj : 16 ≤ j) : b.testBit j = false := Nat.testBit_lt_two_pow (Nat.lt_of_lt_of_le hb (Nat.pow_le_pow_right (by decide) hj : 2 ^ 16 ≤ 2 ^ j))
theorem full_bit {j : Nat} (hj : j < 16) : (65535 : Nat).testBit j = true := by
  rw [show (65535 : Nat) = 2 ^ 16 - 1 by rfl, Nat.testBit_two_pow_sub_one]; simp [hj]
theorem andNot_al (b : Nat) (i : Nat) (hb : b < 65536) (hi : i ≤ 15) : b &&& (65535 - 2 ^ i) = if b.testBit i then b - 2 ^ i else b := by
  apply Nat.eq_of_testBit_eq
  intro j
  rw [Nat.testBit_and, bit_sub (full_bit (by omega))]
  cases hx : b.testBit i with
  | true =>
    rw [if_pos rfl, bit_sub hx]
    rcases Nat.lt_or_ge j 16 with g | g
    · rw [full_bit g, Bool.true_and]
    · rw [bit_top hb g]; simp
  | false =>
    rw [if_neg (by simp)]
    rcases Nat.lt_or_ge j 16 with g | g
    · rw [full_bit g, Bool.true_and]
      by_cases h : i = j
      · subst h; rw [hx]; simp
      · simp [h]
    · rw [bit_top hb g]; simp
theorem andNot_al_int (b : Nat) (i : Int) (hb : b < 65536) : b &&& (65535 - al i) = outB b i := by
  unfold outB
  by_cases h : 0 ≤ i ∧ i ≤ 15
  · obtain ⟨k, rfl⟩ : ∃ k : Nat, i = k := ⟨i.toNat, by omega⟩
    rw [al_in (by omega), andNot_al b k hb (by omega), Int.toNat_natCast]
    cases hb : b.testBit k <;> simp <;> omega
  · rw [al_out h, Nat.sub_zero, show (65535 : Nat) = 2 ^ 16 - 1 by rfl, Nat.and_two_pow_sub_one_eq_mod, Nat.mod_eq_of_lt (by omega), if_neg (by omega)]
theorem rank_al (b : Nat) (i : Int) (hb : b < 65536) (hi : 0 ≤ i) : cnt (b &&& ((al i + 65535) % 65536)) 16 = rankB b i := by
  unfold rankB
  rw [if_neg (by omega)]
  by_cases h : i ≤ 15
  · obtain ⟨k, rfl⟩ : ∃ k : Nat, i = k := ⟨i.toNat, by omega⟩
    have hp := Nat.two_pow_pos k
    have hq : 2 ^ k ≤ 2 ^ 15 := Nat.pow_le_pow_right (by decide) (by omega)
    rw [al_in (by omega), if_pos h, Int.toNat_natCast, show (2 ^ k + 65535) % 65536 = 2 ^ k - 1 by omega, Nat.and_two_pow_sub_one_eq_mod, cnt_mod (by omega)]
  · rw [al_out (by omega), if_neg h, show (0 + 65535) % 65536 = 2 ^ 16 - 1 by rfl, Nat.and_two_pow_sub_one_eq_mod, Nat.mod_eq_of_lt (by omega)]
theorem withB_lt (b : Nat) (i : Int) (hb : b < 65536) : withB b i < 65536 := by
  rw [← or_al_int]; exact Nat.or_lt_two_pow (n := 16) hb (al_lt i)
theorem outB_lt (b : Nat) (i : Int) (hb : b < 65536) : outB b i < 65536 := by
  unfold outB
  split
  · exact Nat.lt_of_le_of_lt (Nat.sub_le _ _) hb
  · exact hb
end Go.Proofs.YtjafmnemobcipaaDoor
