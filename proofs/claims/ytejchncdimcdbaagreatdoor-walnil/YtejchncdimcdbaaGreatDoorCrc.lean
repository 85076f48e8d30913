/-
  Plain reckoning: the check sum as a map that goes with xor. No program, no model.
-/
import Derived.Laws.BitsAllLaws
namespace Go.Proofs.YtejchncdimcdbaaGreatDoor
set_option linter.unusedVariables false

theorem xlc (a b c : Nat) : a ^^^ (b ^^^ c) = b ^^^ (a ^^^ c) := by rw [← Nat.xor_assoc, Nat.xor_comm a b, Nat.xor_assoc]
theorem xself (a b : Nat) : a ^^^ (a ^^^ b) = b := by rw [← Nat.xor_assoc, Nat.xor_self, Nat.zero_xor]
theorem xeq0 {a b : Nat} (h : a ^^^ b = 0) : a = b := by have := xself a b; rw [h, Nat.xor_zero] at this; exact this
theorem xinj {a b c : Nat} (h : a ^^^ c = b ^^^ c) : a = b := by
  apply xeq0
  have : (a ^^^ c) ^^^ (b ^^^ c) = 0 := by rw [h, Nat.xor_self]
  rw [Nat.xor_assoc, xlc c b c, Nat.xor_self, Nat.xor_zero] at this; exact this
theorem xmod2 (a b : Nat) : (a ^^^ b) % 2 = (a % 2) ^^^ (b % 2) := by have := @Nat.xor_mod_two_pow a b 1; simpa using this
theorem xlt {a b : Nat} (ha : a < 4294967296) (hb : b < 4294967296) : a ^^^ b < 4294967296 := Nat.xor_lt_two_pow (n := 32) ha hb
theorem x256 (a b : Nat) : (a ^^^ b) * 256 = a * 256 ^^^ b * 256 := by
  have := @Nat.shiftLeft_xor_distrib 8 a b
  simpa [Nat.shiftLeft_eq] using this

/-- One turn; the word's eight turns. -/
def tn (c : Nat) : Nat := c / 2 ^^^ c % 2 * 2197175160
def zz (c : Nat) : Nat := tn (tn (tn (tn (tn (tn (tn (tn c)))))))
def it (f : Nat → Nat) : Nat → Nat → Nat
  | 0, a => a
  | n + 1, a => it f n (f a)

theorem tn_xor (a b : Nat) : tn (a ^^^ b) = tn a ^^^ tn b := by
  unfold tn
  rw [Nat.xor_div_two, xmod2]
  rcases Nat.mod_two_eq_zero_or_one a with h | h <;> rcases Nat.mod_two_eq_zero_or_one b with h2 | h2 <;> rw [h, h2] <;> simp [Nat.xor_assoc]
  · rw [Nat.xor_comm (b / 2)]
  · rw [xlc (2197175160) (b / 2), Nat.xor_self, Nat.xor_zero]
theorem tn_lt {c : Nat} (h : c < 4294967296) : tn c < 4294967296 := by
  unfold tn
  refine xlt (by omega) ?_
  rcases Nat.mod_two_eq_zero_or_one c with h | h <;> rw [h] <;> decide
theorem tn_two (k : Nat) : tn (2 * k) = k := by unfold tn; rw [show 2 * k / 2 = k by omega, show 2 * k % 2 = 0 by omega]; simp
theorem tn_zero : tn 0 = 0 := rfl
theorem tn_null {c : Nat} (hc : c < 4294967296) (h : tn c = 0) : c = 0 := by
  unfold tn at h
  have e := xeq0 h
  rcases Nat.mod_two_eq_zero_or_one c with h1 | h1 <;> rw [h1] at e <;> omega

theorem zz_xor (a b : Nat) : zz (a ^^^ b) = zz a ^^^ zz b := by simp only [zz, tn_xor]
theorem zz_lt {c : Nat} (h : c < 4294967296) : zz c < 4294967296 := by unfold zz; exact tn_lt (tn_lt (tn_lt (tn_lt (tn_lt (tn_lt (tn_lt (tn_lt h)))))))
theorem zz_256 (k : Nat) : zz (k * 256) = k := by
  unfold zz
  rw [show k * 256 = 2 * (2 * (2 * (2 * (2 * (2 * (2 * (2 * k))))))) by omega]
  simp only [tn_two]
theorem zz_null {c : Nat} (hc : c < 4294967296) (h : zz c = 0) : c = 0 := by
  unfold zz at h
  have l1 := tn_lt hc; have l2 := tn_lt l1; have l3 := tn_lt l2; have l4 := tn_lt l3; have l5 := tn_lt l4; have l6 := tn_lt l5; have l7 := tn_lt l6
  exact tn_null hc (tn_null l1 (tn_null l2 (tn_null l3 (tn_null l4 (tn_null l5 (tn_null l6 (tn_null l7 h)))))))
theorem zz_it (c : Nat) : zz c = it tn 8 c := rfl

theorem it_succ (f : Nat → Nat) (n a : Nat) : it f (n + 1) a = f (it f n a) := by
  induction n generalizing a with
  | zero => rfl
  | succ n ih => exact ih (f a)
theorem it_add (f : Nat → Nat) (m n a : Nat) : it f (m + n) a = it f m (it f n a) := by
  induction n generalizing a with
  | zero => rfl
  | succ n ih => exact ih (f a)
theorem it_mul (f : Nat → Nat) (k n a : Nat) : it (it f k) n a = it f (k * n) a := by
  induction n generalizing a with
  | zero => rfl
  | succ n ih => rw [Nat.mul_succ, it_add f (k * n) k]; exact ih (it f k a)
theorem it_xor {f : Nat → Nat} (hf : ∀ a b, f (a ^^^ b) = f a ^^^ f b) (n a b : Nat) : it f n (a ^^^ b) = it f n a ^^^ it f n b := by
  induction n generalizing a b with
  | zero => rfl
  | succ n ih => simp only [it, hf, ih]
theorem it_lt {f : Nat → Nat} (hf : ∀ a, a < 4294967296 → f a < 4294967296) (n : Nat) {a : Nat} (h : a < 4294967296) : it f n a < 4294967296 := by
  induction n generalizing a with
  | zero => exact h
  | succ n ih => exact ih (hf a h)
theorem it_null {f : Nat → Nat} (hf : ∀ a, a < 4294967296 → f a < 4294967296) (h0 : ∀ a, a < 4294967296 → f a = 0 → a = 0) (n : Nat) {a : Nat} (h : a < 4294967296) (e : it f n a = 0) : a = 0 := by
  induction n generalizing a with
  | zero => exact e
  | succ n ih => exact h0 a h (ih (hf a h) e)

/-- The register for bytes p from x. -/
def reg (x : Nat) : List Nat → Nat
  | [] => x
  | v :: p => reg (zz (x ^^^ v)) p
/-- The bytes as one number, the first the lowest. -/
def le : List Nat → Nat
  | [] => 0
  | v :: p => v ^^^ le p * 256
theorem reg_le (p : List Nat) : ∀ x, reg x p = it zz p.length (x ^^^ le p) := by
  induction p with
  | nil => intro x; simp [reg, le, it]
  | cons v p ih =>
    intro x
    simp only [reg, le, List.length_cons, it]
    rw [ih, ← Nat.xor_assoc, zz_xor (x ^^^ v), zz_256]
theorem reg_append (p q : List Nat) : ∀ x, reg x (p ++ q) = reg (reg x p) q := by
  induction p with
  | nil => intro x; rfl
  | cons v p ih => intro x; exact ih _
theorem reg_lt (p : List Nat) : ∀ x, x < 4294967296 → (∀ v ∈ p, v < 256) → reg x p < 4294967296 := by
  induction p with
  | nil => intro x h _; exact h
  | cons v p ih =>
    intro x h hp
    have := hp v (by simp)
    exact ih _ (zz_lt (xlt h (by omega))) (fun u hu => hp u (by simp [hu]))
theorem le_append (p q : List Nat) : le (p ++ q) = le p ^^^ le q * 256 ^ p.length := by
  induction p with
  | nil => simp [le]
  | cons v p ih => simp only [List.cons_append, le, ih, x256, List.length_cons, Nat.pow_succ, Nat.mul_assoc, Nat.xor_assoc]
theorem le_lt (p : List Nat) (h : ∀ v ∈ p, v < 256) : le p < 2 ^ (8 * p.length) := by
  induction p with
  | nil => simp [le]
  | cons v p ih =>
    have h1 := ih (fun u hu => h u (by simp [hu]))
    have h2 := h v (by simp)
    simp only [le, List.length_cons]
    have e : 2 ^ (8 * (p.length + 1)) = 2 ^ (8 * p.length) * 256 := by rw [Nat.mul_succ, Nat.pow_add]
    refine Nat.xor_lt_two_pow ?_ (by rw [e]; omega)
    have : 0 < 2 ^ (8 * p.length) := Nat.pow_pos (by omega)
    rw [e]; omega
theorem le_xor0 : ∀ (p q : List Nat), p.length = q.length → (∀ v ∈ p, v < 256) → (∀ v ∈ q, v < 256) → le p = le q → p = q
  | [], [], _, _, _, _ => rfl
  | [], b :: q, h, _, _, _ => by simp at h
  | a :: p, [], h, _, _, _ => by simp at h
  | a :: p, b :: q, h, hp, hq, e => by
    have ha := hp a (by simp)
    have hb := hq b (by simp)
    simp only [le] at e
    have e1 : (a ^^^ le p * 256) % 2 ^ 8 = (b ^^^ le q * 256) % 2 ^ 8 := by rw [e]
    have e2 : (a ^^^ le p * 256) / 2 ^ 8 = (b ^^^ le q * 256) / 2 ^ 8 := by rw [e]
    rw [Nat.xor_mod_two_pow, Nat.xor_mod_two_pow, show a % 2 ^ 8 = a by omega, show b % 2 ^ 8 = b by omega, show le p * 256 % 2 ^ 8 = 0 by omega, show le q * 256 % 2 ^ 8 = 0 by omega, Nat.xor_zero, Nat.xor_zero] at e1
    rw [Nat.xor_div_two_pow, Nat.xor_div_two_pow, show a / 2 ^ 8 = 0 by omega, show b / 2 ^ 8 = 0 by omega, show le p * 256 / 2 ^ 8 = le p by omega, show le q * 256 / 2 ^ 8 = le q by omega, Nat.zero_xor, Nat.zero_xor] at e2
    rw [e1, le_xor0 p q (by simpa using h) (fun u hu => hp u (by simp [hu])) (fun u hu => hq u (by simp [hu])) e2]

/-- Up to four neighbouring bytes turned are told. -/
theorem reg_tells (x : Nat) (p q : List Nat) (at_ : Nat) (hx : x < 4294967296) (hl : p.length = q.length) (hp : ∀ v ∈ p, v < 256) (hq : ∀ v ∈ q, v < 256)
    (h1 : p.take at_ = q.take at_) (h2 : p.drop (at_ + 4) = q.drop (at_ + 4)) (h : reg x p = reg x q) : p = q := by
  have sp : p = p.take at_ ++ ((p.drop at_).take 4 ++ p.drop (at_ + 4)) := by rw [← List.drop_drop, List.take_append_drop, List.take_append_drop]
  have sq : q = q.take at_ ++ ((q.drop at_).take 4 ++ q.drop (at_ + 4)) := by rw [← List.drop_drop, List.take_append_drop, List.take_append_drop]
  have mp : ∀ v ∈ (p.drop at_).take 4, v < 256 := fun v hv => hp v (List.mem_of_mem_drop (List.mem_of_mem_take hv))
  have mq : ∀ v ∈ (q.drop at_).take 4, v < 256 := fun v hv => hq v (List.mem_of_mem_drop (List.mem_of_mem_take hv))
  have ml : ((p.drop at_).take 4).length = ((q.drop at_).take 4).length := by simp [hl]
  have m4 : ((p.drop at_).take 4).length ≤ 4 := by simp; omega
  have m4q : ((q.drop at_).take 4).length ≤ 4 := by omega
  have bT : ∀ v ∈ q.take at_, v < 256 := fun v hv => hq v (List.mem_of_mem_take hv)
  have bD : ∀ v ∈ q.drop (at_ + 4), v < 256 := fun v hv => hq v (List.mem_of_mem_drop hv)
  rw [sp, sq, h1, h2] at h
  rw [sp, sq, h1, h2]
  congr 2
  rw [reg_append, reg_append, reg_append, reg_append] at h
  generalize reg x (q.take at_) = y at h
  generalize q.drop (at_ + 4) = D at h
  generalize (p.drop at_).take 4 = m at h ml m4 mp
  generalize (q.drop at_).take 4 = m' at h ml m4q mq
  rw [reg_le D, reg_le D] at h
  have lm : le m < 4294967296 := Nat.lt_of_lt_of_le (le_lt m mp) (Nat.le_trans (Nat.pow_le_pow_right (by omega) (show 8 * m.length ≤ 32 by omega)) (by decide))
  have lm' : le m' < 4294967296 := Nat.lt_of_lt_of_le (le_lt m' mq) (Nat.le_trans (Nat.pow_le_pow_right (by omega) (show 8 * m'.length ≤ 32 by omega)) (by decide))
  have e0 : it zz D.length (reg y m ^^^ reg y m') = 0 := by
    have a1 := it_xor zz_xor D.length (reg y m ^^^ le D) (reg y m' ^^^ le D)
    rw [h, Nat.xor_self, show (reg y m ^^^ le D) ^^^ (reg y m' ^^^ le D) = reg y m ^^^ reg y m' by rw [Nat.xor_assoc, xlc (le D), Nat.xor_self, Nat.xor_zero]] at a1
    exact a1
  have e1 : reg y m ^^^ reg y m' = it zz m.length (le m ^^^ le m') := by
    rw [reg_le m, reg_le m', ml, ← it_xor zz_xor, Nat.xor_assoc, xlc (le m), ← Nat.xor_assoc, Nat.xor_self, Nat.zero_xor]
  rw [e1] at e0
  have z1 := it_null (fun a h => zz_lt h) (fun a h => zz_null h) D.length (it_lt (fun a h => zz_lt h) m.length (xlt lm lm')) e0
  have z2 := it_null (fun a h => zz_lt h) (fun a h => zz_null h) m.length (xlt lm lm') z1
  exact le_xor0 m m' ml mp mq (xeq0 z2)

/-- The sum of what had the sum c, with p behind it. -/
def upd (c : Nat) (p : List Nat) : Nat := reg (c ^^^ 4294967295) p ^^^ 4294967295
def joi (a b n : Nat) : Nat := it zz n a ^^^ b
theorem not_xor {c : Nat} (h : c < 4294967296) : 4294967295 - c = c ^^^ 4294967295 := by
  apply Nat.eq_of_testBit_eq
  intro i
  rw [show 4294967295 - c = 2 ^ 32 - (c + 1) by omega, Nat.testBit_two_pow_sub_succ (by exact h), Nat.testBit_xor, show (4294967295 : Nat) = 2 ^ 32 - 1 by rfl, Nat.testBit_two_pow_sub_one]
  by_cases hi : i < 32
  · simp [hi]
  · have : c.testBit i = false := Nat.testBit_lt_two_pow (Nat.lt_of_lt_of_le h (show 2 ^ 32 ≤ 2 ^ i from Nat.pow_le_pow_right (by omega) (by omega)))
    simp [hi, this]
theorem upd_lt {c : Nat} {p : List Nat} (h : c < 4294967296) (hp : ∀ v ∈ p, v < 256) : upd c p < 4294967296 := xlt (reg_lt p _ (xlt h (by decide)) hp) (by decide)
theorem upd_nil (c : Nat) : upd c [] = c := by unfold upd; simp only [reg]; rw [Nat.xor_assoc, Nat.xor_self, Nat.xor_zero]
theorem upd_append (c : Nat) (p q : List Nat) : upd c (p ++ q) = upd (upd c p) q := by
  unfold upd; rw [reg_append]; congr 2; rw [Nat.xor_assoc, Nat.xor_self, Nat.xor_zero]
theorem upd_join (c : Nat) (q : List Nat) : upd c q = joi c (upd 0 q) q.length := by
  unfold upd joi
  rw [reg_le, reg_le, Nat.zero_xor, Nat.xor_assoc c, it_xor zz_xor, Nat.xor_assoc]
theorem joi_nest (a b c m n : Nat) : joi (joi a b m) c n = joi a (joi b c n) (m + n) := by
  unfold joi; rw [it_xor zz_xor, Nat.add_comm, it_add, Nat.xor_assoc]
theorem joi_lt {a b : Nat} (n : Nat) (ha : a < 4294967296) (hb : b < 4294967296) : joi a b n < 4294967296 := xlt (it_lt (fun a h => zz_lt h) n ha) hb

theorem upd_inj {c : Nat} {p q : List Nat} (h : upd c p = upd c q) : reg (c ^^^ 4294967295) p = reg (c ^^^ 4294967295) q := xinj h

theorem le_zip : ∀ (p q : List Nat), p.length = q.length → le (List.zipWith (· ^^^ ·) p q) = le p ^^^ le q
  | [], [], _ => rfl
  | [], b :: q, h => by simp at h
  | a :: p, [], h => by simp at h
  | a :: p, b :: q, h => by
    simp only [List.zipWith_cons_cons, le, le_zip p q (by simpa using h), x256, Nat.xor_assoc]
    rw [xlc b]
theorem le_zeros (n : Nat) : le (List.replicate n 0) = 0 := by induction n with | zero => rfl | succ n ih => simp [List.replicate_succ, le, ih]
/-- Three texts laid over one another. -/
theorem upd_linear (p q : List Nat) (n : Nat) (hp : p.length = n) (hq : q.length = n) : upd 0 p ^^^ upd 0 q ^^^ upd 0 (List.zipWith (· ^^^ ·) p q) = upd 0 (List.replicate n 0) := by
  unfold upd
  simp only [reg_le, Nat.zero_xor, List.length_zipWith, hp, hq, Nat.min_self, List.length_replicate, le_zip p q (by omega), le_zeros, Nat.xor_zero, it_xor zz_xor]
  generalize it zz n 4294967295 = F
  generalize it zz n (le p) = P
  generalize it zz n (le q) = Q
  apply Nat.eq_of_testBit_eq
  intro i
  simp only [Nat.testBit_xor]
  generalize F.testBit i = f
  generalize P.testBit i = g
  generalize Q.testBit i = h
  generalize (4294967295 : Nat).testBit i = k
  revert f g h k
  decide
end Go.Proofs.YtejchncdimcdbaaGreatDoor
