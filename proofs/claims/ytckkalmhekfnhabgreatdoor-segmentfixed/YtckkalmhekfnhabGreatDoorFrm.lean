/-
  Plain reckoning: the bytes of a frame. No program.
-/
import Derived.Test.YtckkalmhekfnhabGreatDoorReMore
import Derived.Test.YtckkalmhekfnhabGreatDoorCrc
namespace Go.Proofs.YtckkalmhekfnhabGreatDoor
set_option linter.unusedVariables false
set_option linter.unusedSimpArgs false

theorem f_fold_form (r : List Nat) : ∀ a, (∀ y ∈ r, y < 256) → ∃ s, s < 256 ^ r.length ∧ r.foldl (fun a c => a * 256 + c) a = a * 256 ^ r.length + s := by
  induction r with
  | nil => intro a _; exact ⟨0, by simp, by simp⟩
  | cons c r ih =>
    intro a hb
    obtain ⟨s, hs, e⟩ := ih (a * 256 + c) (fun y hy => hb y (by simp [hy]))
    have hc := hb c (by simp)
    refine ⟨c * 256 ^ r.length + s, ?_, ?_⟩
    · simp only [List.length_cons]
      rw [Nat.pow_succ]
      have : c * 256 ^ r.length ≤ 255 * 256 ^ r.length := Nat.mul_le_mul (by omega) (Nat.le_refl _)
      omega
    · simp only [List.foldl_cons, List.length_cons]
      rw [e, Nat.pow_succ, Nat.add_mul, Nat.mul_comm (256 ^ r.length) 256, ← Nat.mul_assoc]; omega
theorem f_wide_fold (r : List Nat) : ∀ a, (∀ y ∈ r, y < 256) → wide (r.foldl (fun a c => a * 256 + c) a) r.length = r := by
  induction r with
  | nil => intro a _; rfl
  | cons c r ih =>
    intro a hb
    have hb' : ∀ y ∈ r, y < 256 := fun y hy => hb y (by simp [hy])
    have hc := hb c (by simp)
    obtain ⟨s, hs, e⟩ := f_fold_form r (a * 256 + c) hb'
    have h2 := ih (a * 256 + c) hb'
    simp only [List.foldl_cons, List.length_cons, wide]
    rw [h2, e]
    have hp : 0 < 256 ^ r.length := Nat.pow_pos (by omega)
    have : ((a * 256 + c) * 256 ^ r.length + s) / 256 ^ r.length = a * 256 + c := by
      rw [Nat.add_comm, Nat.add_mul_div_right _ _ hp, Nat.div_eq_of_lt hs, Nat.zero_add]
    rw [this]
    congr 1; omega
theorem f_fold_mod (r : List Nat) : ∀ a, (∀ y ∈ r, y < 256) → (a + 1) * 256 ^ r.length ≤ 18446744073709551616 → r.foldl (fun a c => (a * 256 + c) % 18446744073709551616) a = r.foldl (fun a c => a * 256 + c) a := by
  induction r with
  | nil => intro a _ _; rfl
  | cons c r ih =>
    intro a hb h
    have hc := hb c (by simp)
    simp only [List.foldl_cons]
    have hp : 0 < 256 ^ r.length := Nat.pow_pos (by omega)
    simp only [List.length_cons, Nat.pow_succ] at h
    have h2 : (a * 256 + c + 1) * 256 ^ r.length ≤ (a + 1) * (256 ^ r.length * 256) := by
      rw [Nat.mul_comm (256 ^ r.length) 256, ← Nat.mul_assoc]
      exact Nat.mul_le_mul (by omega) (Nat.le_refl _)
    have h3 : a * 256 + c + 1 ≤ (a * 256 + c + 1) * 256 ^ r.length := Nat.le_mul_of_pos_right _ hp
    rw [Nat.mod_eq_of_lt (by omega)]
    exact ih _ (fun y hy => hb y (by simp [hy])) (by omega)
theorem f_wide_beL {r : List Nat} (hb : ∀ y ∈ r, y < 256) (hl : r.length ≤ 8) : wide (beL r) r.length = r ∧ beL r < 256 ^ r.length := by
  have hpow : 256 ^ r.length ≤ 256 ^ 8 := Nat.pow_le_pow_right (by omega) hl
  have h8 : (256 : Nat) ^ 8 = 18446744073709551616 := (by decide)
  have e : beL r = r.foldl (fun a c => a * 256 + c) 0 := f_fold_mod r 0 hb (by omega)
  obtain ⟨s, hs, e2⟩ := f_fold_form r 0 hb
  rw [e]
  exact ⟨f_wide_fold r 0 hb, by rw [e2]; omega⟩
theorem f_beL_wide (v : Nat) : ∀ n a, n ≤ 8 → a * 256 ^ n + v % 256 ^ n < 18446744073709551616 → (wide v n).foldl (fun a c => (a * 256 + c) % 18446744073709551616) a = a * 256 ^ n + v % 256 ^ n := by
  intro n
  induction n with
  | zero => intro a _ _; simp [wide, Nat.mod_one]
  | succ n ih =>
    intro a hn h
    have hpow : 256 ^ (n + 1) = 256 ^ n * 256 := Nat.pow_succ ..
    have hv : v % 256 ^ (n + 1) = v / 256 ^ n % 256 * 256 ^ n + v % 256 ^ n := by
      rw [hpow, Nat.mod_mul]
      rw [Nat.mul_comm (256 ^ n)]; omega
    have hpos : 0 < 256 ^ n := Nat.pow_pos (by omega)
    have e1 : a * 256 ^ (n + 1) = a * 256 * 256 ^ n := by rw [hpow, Nat.mul_comm (256 ^ n) 256, Nat.mul_assoc]
    have e2 : (a * 256 + v / 256 ^ n % 256) * 256 ^ n = a * 256 * 256 ^ n + v / 256 ^ n % 256 * 256 ^ n := Nat.add_mul ..
    have hle : a * 256 + v / 256 ^ n % 256 ≤ (a * 256 + v / 256 ^ n % 256) * 256 ^ n := Nat.le_mul_of_pos_right _ hpos
    simp only [wide, List.foldl_cons]
    rw [Nat.mod_eq_of_lt (by omega), ih _ (by omega) (by omega)]
    omega
theorem beL_of_wide {v n : Nat} (hn : n ≤ 8) (hv : v < 256 ^ n) : beL (wide v n) = v := by
  have h3 : 256 ^ n ≤ 256 ^ 8 := Nat.pow_le_pow_right (by omega) hn
  have h4 : (256 : Nat) ^ 8 = 18446744073709551616 := (by decide)
  have h5 := f_beL_wide v n 0 hn (by rw [Nat.mod_eq_of_lt hv]; omega)
  unfold beL
  rw [h5, Nat.mod_eq_of_lt hv]; omega

/-- The check sum's text, and the sum. -/
def txF (pl : Nat) (pay : List Nat) : List Nat := wide pay.length 4 ++ (wide pl 8 ++ pay)
def sumF (pl : Nat) (pay : List Nat) : Nat := upd 0 (txF pl pay)
/-- The bytes of a frame. -/
def frB (pl : Nat) (pay : List Nat) : List Nat := 245 :: (wide pay.length 4 ++ (wide pl 8 ++ (wide (sumF pl pay) 4 ++ (pay ++ [95]))))
theorem frB_len (pl : Nat) (pay : List Nat) : (frB pl pay).length = pay.length + 18 := by simp [frB, wide_len]; omega
theorem txF_byte {pl : Nat} {pay : List Nat} (hb : ∀ x ∈ pay, x < 256) : ∀ x ∈ txF pl pay, x < 256 := by
  intro x hx
  simp only [txF, List.mem_append] at hx
  rcases hx with h | h | h
  · exact wide_byte _ _ _ h
  · exact wide_byte _ _ _ h
  · exact hb x h
theorem sumF_lt {pl : Nat} {pay : List Nat} (hb : ∀ x ∈ pay, x < 256) : sumF pl pay < 4294967296 := upd_lt (by decide) (txF_byte hb)
theorem frB_byte {pl : Nat} {pay : List Nat} (hb : ∀ x ∈ pay, x < 256) : ∀ x ∈ frB pl pay, x < 256 := by
  intro x hx
  simp only [frB, List.mem_append, List.mem_cons, List.not_mem_nil, or_false] at hx
  rcases hx with rfl | h | h | h | h | rfl
  · decide
  · exact wide_byte _ _ _ h
  · exact wide_byte _ _ _ h
  · exact wide_byte _ _ _ h
  · exact hb x h
  · decide

/-- The frame with which p begins. -/
def firstF (p : List Nat) : Option (Nat × List Nat) :=
  if p.getD 0 0 = 245 ∧ 1 ≤ beL ((p.drop 1).take 4) ∧ beL ((p.drop 1).take 4) ≤ 65535 ∧ 17 + beL ((p.drop 1).take 4) < p.length ∧ p.getD (17 + beL ((p.drop 1).take 4)) 0 = 95 ∧
      sumF (beL ((p.drop 5).take 8)) ((p.drop 17).take (beL ((p.drop 1).take 4))) = beL ((p.drop 13).take 4)
  then some (beL ((p.drop 5).take 8), (p.drop 17).take (beL ((p.drop 1).take 4))) else none

theorem frB_parts (pl : Nat) (pay t : List Nat) (hpl : pl < 18446744073709551616) (hl : pay.length ≤ 65535) (hb : ∀ x ∈ pay, x < 256) :
    ((frB pl pay ++ t).drop 1).take 4 = wide pay.length 4 ∧ ((frB pl pay ++ t).drop 5).take 8 = wide pl 8 ∧ ((frB pl pay ++ t).drop 13).take 4 = wide (sumF pl pay) 4 ∧ ((frB pl pay ++ t).drop 17).take pay.length = pay ∧ (frB pl pay ++ t).getD (17 + pay.length) 0 = 95 := by
  have h4 := wide_len pay.length 4
  have h8 := wide_len pl 8
  have hs := wide_len (sumF pl pay) 4
  obtain ⟨A, hA⟩ : ∃ A, wide pay.length 4 = A := ⟨_, rfl⟩
  obtain ⟨B, hB⟩ : ∃ B, wide pl 8 = B := ⟨_, rfl⟩
  obtain ⟨C, hC⟩ : ∃ C, wide (sumF pl pay) 4 = C := ⟨_, rfl⟩
  unfold frB
  rw [hA] at h4 ⊢
  rw [hB] at h8 ⊢
  rw [hC] at hs ⊢
  have e1 : (245 :: (A ++ (B ++ (C ++ (pay ++ [95])))) ++ t) = [245] ++ (A ++ (B ++ (C ++ (pay ++ ([95] ++ t))))) := by simp
  rw [e1]
  refine ⟨?_, ?_, ?_, ?_, ?_⟩
  · rw [List.drop_append_of_le_length (by simp)]; simp [List.take_append, h4]
  · rw [show 5 = 1 + 4 by rfl, ← List.drop_drop, List.drop_append_of_le_length (by simp), show List.drop 1 [245] = [] from rfl, List.nil_append, ← h4, List.drop_left, ← h8, List.take_left]
  · rw [show 13 = 1 + (4 + 8) by rfl, ← List.drop_drop, ← List.drop_drop, List.drop_append_of_le_length (by simp), show List.drop 1 [245] = [] from rfl, List.nil_append]
    rw [← h4, List.drop_left, ← h8, List.drop_left]
    rw [h4, ← hs, List.take_left]
  · rw [show 17 = 1 + (4 + (8 + 4)) by rfl, ← List.drop_drop, ← List.drop_drop, ← List.drop_drop, List.drop_append_of_le_length (by simp), show List.drop 1 [245] = [] from rfl, List.nil_append]
    conv => lhs; arg 2; arg 1; rw [← hs]
    conv => lhs; arg 2; arg 2; arg 1; rw [← h8]
    conv => lhs; arg 2; arg 2; arg 2; arg 1; rw [← h4]
    rw [List.drop_left, List.drop_left, List.drop_left, List.take_left]
  · rw [List.getD_eq_getElem?_getD, List.getElem?_append_right (by simp; omega), List.getElem?_append_right (by simp; omega), List.getElem?_append_right (by simp; omega), List.getElem?_append_right (by simp; omega), List.getElem?_append_right (by simp; omega), h4, h8, hs]
    simp only [List.length_cons, List.length_nil]
    rw [show 17 + pay.length - (0 + 1) - 4 - 8 - 4 - pay.length = 0 by omega]
    rfl

theorem firstF_some (pl : Nat) (pay t : List Nat) (hpl : pl < 18446744073709551616) (h1 : 1 ≤ pay.length) (hl : pay.length ≤ 65535) (hb : ∀ x ∈ pay, x < 256) : firstF (frB pl pay ++ t) = some (pl, pay) := by
  obtain ⟨p1, p2, p3, p4, p5⟩ := frB_parts pl pay t hpl hl hb
  have hlen : (frB pl pay ++ t).length = pay.length + 18 + t.length := by rw [List.length_append, frB_len]
  have h0 : (frB pl pay ++ t).getD 0 0 = 245 := rfl
  unfold firstF
  obtain ⟨P, hP⟩ : ∃ P, frB pl pay ++ t = P := ⟨_, rfl⟩
  rw [hP] at p1 p2 p3 p4 p5 hlen h0 ⊢
  rw [p1, p2, p3, beL_of_wide (by omega) (show pay.length < 256 ^ 4 by omega), beL_of_wide (by omega) (show pl < 256 ^ 8 by omega), beL_of_wide (by omega) (show sumF pl pay < 256 ^ 4 from sumF_lt hb), p4]
  rw [if_pos ⟨h0, h1, hl, by omega, p5, rfl⟩]

theorem firstF_form {p : List Nat} {pl : Nat} {pay : List Nat} (h : firstF p = some (pl, pay)) (hb : ∀ x ∈ p, x < 256) :
    pl < 18446744073709551616 ∧ 1 ≤ pay.length ∧ pay.length ≤ 65535 ∧ (∀ x ∈ pay, x < 256) ∧ p = frB pl pay ++ p.drop (pay.length + 18) := by
  unfold firstF at h
  split at h
  case isFalse => simp at h
  rename_i hc
  obtain ⟨c1, c2, c3, c4, c5, c6⟩ := hc
  simp only [Option.some.injEq, Prod.mk.injEq] at h
  obtain ⟨h1, h2⟩ := h
  have hd : ∀ a n x, x ∈ (p.drop a).take n → x < 256 := fun a n x hx => hb x (List.mem_of_mem_drop (List.mem_of_mem_take hx))
  have l4 : ((p.drop 1).take 4).length = 4 := by simp; omega
  have l8 : ((p.drop 5).take 8).length = 8 := by simp; omega
  have ls : ((p.drop 13).take 4).length = 4 := by simp; omega
  have w4 := f_wide_beL (hd 1 4) (by omega)
  have w8 := f_wide_beL (hd 5 8) (by omega)
  have ws := f_wide_beL (hd 13 4) (by omega)
  rw [l4] at w4
  rw [l8] at w8
  rw [ls] at ws
  have hpn : pay.length = beL ((p.drop 1).take 4) := by rw [← h2, List.length_take, List.length_drop]; omega
  have hpb : ∀ x ∈ pay, x < 256 := fun x hx => hd 17 _ x (by rw [← h2] at hx; exact hx)
  refine ⟨by rw [← h1]; have := w8.2; simpa using this, by omega, by omega, hpb, ?_⟩
  rw [h2, h1] at c6
  rw [h1] at w8
  unfold frB
  rw [c6, hpn, w4.1, w8.1, ws.1]
  have e0 : p = p.getD 0 0 :: p.drop 1 := by
    cases p with
    | nil => simp at c4
    | cons a r => rfl
  have e1 : p.drop 1 = (p.drop 1).take 4 ++ p.drop 5 := by rw [show 5 = 1 + 4 by rfl, ← List.drop_drop, List.take_append_drop]
  have e5 : p.drop 5 = (p.drop 5).take 8 ++ p.drop 13 := by rw [show 13 = 5 + 8 by rfl, ← List.drop_drop, List.take_append_drop]
  have e13 : p.drop 13 = (p.drop 13).take 4 ++ p.drop 17 := by rw [show 17 = 13 + 4 by rfl, ← List.drop_drop, List.take_append_drop]
  have e17 : p.drop 17 = pay ++ p.drop (17 + pay.length) := by rw [hpn, ← List.drop_drop, ← h2, List.take_append_drop]
  have e18 : p.drop (17 + pay.length) = [95] ++ p.drop (pay.length + 18) := by
    rw [hpn]
    rw [show beL ((p.drop 1).take 4) + 18 = 17 + beL ((p.drop 1).take 4) + 1 by omega]
    rw [List.drop_eq_getElem_cons c4]
    rw [List.getD_eq_getElem?_getD, List.getElem?_eq_getElem c4] at c5
    simp only [Option.getD_some] at c5
    rw [c5]; rfl
  rw [← hpn]
  conv => lhs; rw [e0, c1, e1, e5, e13, e17, e18]
  simp

/-- A frame cut short, with noughts behind it, is none. -/
theorem firstF_torn (pl : Nat) (pay : List Nat) (c k : Nat) (hpl : pl < 18446744073709551616) (hl : pay.length ≤ 65535) (hb : ∀ x ∈ pay, x < 256) (hc : c < pay.length + 18) :
    firstF ((frB pl pay).take c ++ List.replicate k 0) = none := by
  obtain ⟨p, hp⟩ : ∃ p, (frB pl pay).take c ++ List.replicate k 0 = p := ⟨_, rfl⟩
  have hpb : ∀ x ∈ p, x < 256 := by
    intro x hx
    rw [← hp] at hx
    rcases List.mem_append.1 hx with h | h
    · exact frB_byte hb x (List.mem_of_mem_take h)
    · have := (List.mem_replicate.1 h).2; omega
  have hlt : ((frB pl pay).take c).length = c := by rw [List.length_take, frB_len]; omega
  have hz : ∀ i, c ≤ i → p.getD i 0 = 0 := by
    intro i hi
    rw [← hp, List.getD_eq_getElem?_getD, List.getElem?_append_right (by omega), List.getElem?_replicate]
    split <;> rfl
  rw [hp]
  cases h : firstF p with
  | none => rfl
  | some x =>
    exfalso
    obtain ⟨pl', pay'⟩ := x
    obtain ⟨g1, g2, g3, g4, g5⟩ := firstF_form h hpb
    obtain ⟨p1, p2, p3, p4, p5⟩ := frB_parts pl' pay' (p.drop (pay'.length + 18)) g1 g3 g4
    rw [← g5] at p1 p5
    rcases Nat.lt_or_ge 17 c with h17 | h17
    · have q1 := (frB_parts pl pay [] hpl hl hb).1
      rw [List.append_nil] at q1
      have e : (p.drop 1).take 4 = ((frB pl pay).drop 1).take 4 := by
        rw [← hp, List.drop_append_of_le_length (by omega), List.take_append_of_le_length (by rw [List.length_drop, hlt]; omega), List.drop_take, List.take_take, Nat.min_eq_left (by omega)]
      rw [p1, q1] at e
      have e2 := congrArg beL e
      rw [beL_of_wide (by omega) (show pay'.length < 256 ^ 4 by omega), beL_of_wide (by omega) (show pay.length < 256 ^ 4 by omega)] at e2
      have := hz (17 + pay'.length) (by omega)
      omega
    · have := hz (17 + pay'.length) (by omega)
      omega

theorem getD_append_l (a b : List Nat) (i : Nat) (h : i < a.length) : (a ++ b).getD i 0 = a.getD i 0 := by
  rw [List.getD_eq_getElem?_getD, List.getElem?_append_left h, ← List.getD_eq_getElem?_getD]
theorem getD_append_r (a b : List Nat) (i : Nat) (h : a.length ≤ i) : (a ++ b).getD i 0 = b.getD (i - a.length) 0 := by
  rw [List.getD_eq_getElem?_getD, List.getElem?_append_right h, ← List.getD_eq_getElem?_getD]
/-- The text of the sum, out of the frame's bytes. -/
theorem tx_getD (pl : Nat) (pay : List Nat) (j : Nat) (h : j < 12 + pay.length) : (txF pl pay).getD j 0 = (frB pl pay).getD (if j < 12 then j + 1 else j + 5) 0 := by
  have h4 := wide_len pay.length 4
  have h8 := wide_len pl 8
  have hs := wide_len (sumF pl pay) 4
  unfold frB
  generalize wide (sumF pl pay) 4 = C at hs
  unfold txF
  generalize wide pay.length 4 = A at h4
  generalize wide pl 8 = B at h8
  split
  · rename_i h12
    rw [List.getD_cons_succ]
    rcases Nat.lt_or_ge j 4 with g | g
    · rw [getD_append_l _ _ _ (by omega), getD_append_l _ _ _ (by omega)]
    · rw [getD_append_r A _ _ (by omega), getD_append_r A _ _ (by omega), getD_append_l B _ _ (by omega), getD_append_l B _ _ (by omega)]
  · rename_i h12
    rw [show j + 5 = (j + 4) + 1 from rfl, List.getD_cons_succ]
    rw [getD_append_r A (B ++ pay) _ (by omega), getD_append_r B pay _ (by omega), getD_append_r A _ _ (by omega), getD_append_r B _ _ (by omega), getD_append_r C _ _ (by omega), getD_append_l pay _ _ (by omega), h4, h8, hs]
    congr 1
theorem txF_len (pl : Nat) (pay : List Nat) : (txF pl pay).length = 12 + pay.length := by simp [txF, wide_len]; omega
theorem ext_getD {p q : List Nat} (hl : p.length = q.length) (h : ∀ j, j < p.length → p.getD j 0 = q.getD j 0) : p = q := by
  refine List.ext_getElem hl fun i h1 h2 => ?_
  have := h i h1
  rw [List.getD_eq_getElem?_getD, List.getD_eq_getElem?_getD, List.getElem?_eq_getElem h1, List.getElem?_eq_getElem h2] at this
  simpa using this

/-- One byte turned, not of the length: no frame. -/
theorem firstF_turned (pl : Nat) (pay : List Nat) (at_ x : Nat) (hpl : pl < 18446744073709551616) (hl : pay.length ≤ 65535) (hb : ∀ x ∈ pay, x < 256) (ha : at_ < pay.length + 18) (ha' : at_ = 0 ∨ 5 ≤ at_) (hx : x < 256) (hn : x ≠ (frB pl pay).getD at_ 0) :
    firstF ((frB pl pay).set at_ x) = none := by
  obtain ⟨p, hp⟩ : ∃ p, (frB pl pay).set at_ x = p := ⟨_, rfl⟩
  have hpl' : p.length = pay.length + 18 := by rw [← hp, List.length_set, frB_len]
  have hpb : ∀ y ∈ p, y < 256 := by
    intro y hy
    rw [← hp] at hy
    rcases List.mem_or_eq_of_mem_set hy with h | h
    · exact frB_byte hb y h
    · omega
  have hg : ∀ j, j ≠ at_ → p.getD j 0 = (frB pl pay).getD j 0 := by
    intro j hj
    rw [← hp, List.getD_eq_getElem?_getD, List.getElem?_set_ne (by omega), ← List.getD_eq_getElem?_getD]
  have hg1 : p.getD at_ 0 = x := by
    rw [← hp, List.getD_eq_getElem?_getD, List.getElem?_set_self (by rw [frB_len]; exact ha)]; rfl
  rw [hp]
  cases h : firstF p with
  | none => rfl
  | some y =>
    exfalso
    obtain ⟨pl', pay'⟩ := y
    obtain ⟨g1, g2, g3, g4, g5⟩ := firstF_form h hpb
    have q1 := (frB_parts pl pay [] hpl hl hb).1
    rw [List.append_nil] at q1
    have p1 := (frB_parts pl' pay' (p.drop (pay'.length + 18)) g1 g3 g4).1
    rw [← g5] at p1
    have e : (p.drop 1).take 4 = ((frB pl pay).drop 1).take 4 := by
      refine ext_getD (by simp [frB_len, hpl']) fun j hj => ?_
      have hj4 : j < 4 := by rw [List.length_take] at hj; omega
      have := hg (j + 1) (by omega)
      simpa [List.getD_eq_getElem?_getD, List.getElem?_take, hj4, List.getElem?_drop] using this
    rw [p1, q1] at e
    have e2 := congrArg beL e
    rw [beL_of_wide (by omega) (show pay'.length < 256 ^ 4 by omega), beL_of_wide (by omega) (show pay.length < 256 ^ 4 by omega)] at e2
    have e3 : p = frB pl' pay' := by
      rw [List.drop_eq_nil_of_le (by omega), List.append_nil] at g5
      exact g5
    -- the sums' texts part in one byte at most
    have l1 := txF_len pl pay
    have l2 := txF_len pl' pay'
    have hd : ∀ j, j < 12 + pay.length → (if j < 12 then j + 1 else j + 5) ≠ at_ → (txF pl' pay').getD j 0 = (txF pl pay).getD j 0 := by
      intro j hj hne
      rw [tx_getD _ _ _ (by omega), tx_getD _ _ _ hj, ← e3, hg _ hne]
    have s1 := (frB_parts pl pay [] hpl hl hb).2.2.1
    rw [List.append_nil] at s1
    have s2 := (frB_parts pl' pay' [] g1 g3 g4).2.2.1
    rw [List.append_nil, ← e3] at s2
    by_cases hs : 13 ≤ at_ ∧ at_ < 17
    · -- the sum itself was turned: the text is the same
      have ht : txF pl' pay' = txF pl pay := ext_getD (by omega) fun j hj => hd j (by omega) (by split <;> omega)
      have hsum : sumF pl' pay' = sumF pl pay := by unfold sumF; rw [ht]
      rw [hsum, ← s1] at s2
      have := congrArg (fun l => l.getD (at_ - 13) 0) s2
      simp only [List.getD_eq_getElem?_getD, List.getElem?_take, List.getElem?_drop] at this
      rw [if_pos (by omega), show 13 + (at_ - 13) = at_ by omega, if_pos (by omega), ← List.getD_eq_getElem?_getD, ← List.getD_eq_getElem?_getD, hg1] at this
      exact hn this
    · have hsum : wide (sumF pl' pay') 4 = wide (sumF pl pay) 4 := by
        rw [← s1, ← s2]
        refine ext_getD (by simp [frB_len, hpl']) fun j hj => ?_
        have hj4 : j < 4 := by rw [List.length_take] at hj; omega
        have := hg (13 + j) (by omega)
        simpa [List.getD_eq_getElem?_getD, List.getElem?_take, hj4, List.getElem?_drop] using this
      have hsum2 := congrArg beL hsum
      rw [beL_of_wide (by omega) (show sumF pl' pay' < 256 ^ 4 from sumF_lt g4), beL_of_wide (by omega) (show sumF pl pay < 256 ^ 4 from sumF_lt hb)] at hsum2
      obtain ⟨z, hz⟩ : ∃ z, (if at_ < 13 then at_ - 1 else at_ - 5) = z := ⟨_, rfl⟩
      have hdz : ∀ j, j < 12 + pay.length → j ≠ z → (txF pl' pay').getD j 0 = (txF pl pay).getD j 0 := by
        intro j hj hne
        refine hd j hj ?_
        rw [← hz] at hne
        split at hne <;> split <;> omega
      have ht : txF pl' pay' = txF pl pay := by
        refine reg_tells (0 ^^^ 4294967295) _ _ z (by decide) (by omega) (txF_byte g4) (txF_byte hb) ?_ ?_ (upd_inj hsum2)
        · refine ext_getD (by simp; omega) fun j hj => ?_
          rw [List.length_take] at hj
          have := hdz j (by omega) (by omega)
          simpa [List.getD_eq_getElem?_getD, List.getElem?_take, show j < z by omega] using this
        · refine ext_getD (by simp; omega) fun j hj => ?_
          rw [List.length_drop] at hj
          have := hdz (z + 4 + j) (by omega) (by omega)
          simpa [List.getD_eq_getElem?_getD, List.getElem?_drop] using this
      have hfr : frB pl' pay' = frB pl pay := by
        have t1 : wide pay'.length 4 = wide pay.length 4 := e
        have t2 : wide pl' 8 ++ pay' = wide pl 8 ++ pay := by
          unfold txF at ht
          rw [t1] at ht
          exact List.append_cancel_left ht
        have t3 := List.append_inj t2 (by rw [wide_len, wide_len])
        unfold frB
        rw [t1, t3.1, hsum, t3.2]
      rw [e3, hfr] at hg1
      exact hn hg1.symm
end Go.Proofs.YtckkalmhekfnhabGreatDoor
