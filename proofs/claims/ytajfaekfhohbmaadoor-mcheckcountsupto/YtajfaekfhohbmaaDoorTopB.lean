import Derived.Test.YtajfaekfhohbmaaDoorTopA
import Derived.Lib.BitFns
import Derived.Deep.RegionHeld3
import Derived.Test.YtajfaekfhohbmaaDoorRowz
namespace Go.Proofs.YtajfaekfhohbmaaDoor
open Go.RowKit Go.BigFrame
set_option linter.unusedVariables false
set_option linter.unusedSimpArgs false

theorem inc_split : ∀ {S T : List Nat} {b x : Nat}, Inc b (S ++ x :: T) → Inc (x + 1) T ∧ b ≤ x ∧ Inc b S ∧ ∀ y ∈ S, y < x
  | [], T, b, x, h => ⟨h.2, h.1, trivial, by simp⟩
  | y :: S, T, b, x, h => by
    obtain ⟨h1, h2⟩ := h
    obtain ⟨e1, e2, e3, e4⟩ := inc_split (S := S) h2
    refine ⟨e1, by omega, ⟨h1, e3⟩, ?_⟩
    intro z hz
    rcases List.mem_cons.1 hz with rfl | hz
    · omega
    · exact e4 z hz
theorem sumP_app (S T : List Nat) : sumP (S ++ T) = sumP S + sumP T := by simp [sumP]
theorem inc_lt : ∀ {S : List Nat} {b x : Nat}, Inc b S → (∀ y ∈ S, y < x) → b ≤ x → sumP S + 2 ^ b ≤ 2 ^ x
  | [], b, x, _, _, hb => by simp [sumP]; exact Nat.pow_le_pow_right (by omega) hb
  | h :: S, b, x, hi, hy, hb => by
    have hx := hy h (by simp)
    have h1 := inc_lt (S := S) (b := h + 1) (x := x) hi.2 (fun y hm => hy y (by simp [hm])) (by omega)
    have h2 : 2 ^ b ≤ 2 ^ h := Nat.pow_le_pow_right (by omega) hi.1
    rw [sumP_cons]
    rw [Nat.pow_succ] at h1
    omega
theorem inc_down : ∀ {S : List Nat} {b : Nat} (c : Nat), Inc (b + c) S → Inc b (S.map (· - c)) ∧ sumP S = 2 ^ c * sumP (S.map (· - c))
  | [], b, c, _ => ⟨trivial, by simp [sumP]⟩
  | h :: S, b, c, hi => by
    obtain ⟨h1, h2⟩ := hi
    have e : h + 1 = (h - c + 1) + c := by omega
    rw [e] at h2
    obtain ⟨e1, e2⟩ := inc_down c h2
    refine ⟨⟨by simp only; omega, e1⟩, ?_⟩
    rw [List.map_cons, sumP_cons, sumP_cons, e2, Nat.mul_add, ← Nat.pow_add]
    congr 2
    omega
theorem inc_mem : ∀ {S : List Nat} {b : Nat}, Inc b S → ∀ y ∈ S, b ≤ y
  | [], _, _, y, hy => by simp at hy
  | h :: S, b, hi, y, hy => by
    rcases List.mem_cons.1 hy with rfl | hy
    · exact hi.1
    · have h1 := inc_mem hi.2 y hy
      have h2 := hi.1
      omega
theorem pop_inc : ∀ (f : Nat) (S : List Nat), Inc 0 S → (∀ h ∈ S, h < f) → Lib.popAux f (sumP S) = S.length
  | 0, S, _, h => by
    cases S with
    | nil => rfl
    | cons x S => exact absurd (h x (by simp)) (by omega)
  | f + 1, S, hi, h => by
    rw [Lib.popAux]
    cases S with
    | nil =>
      have := pop_inc f [] trivial (by simp)
      simpa [sumP] using this
    | cons x S =>
      by_cases hx : x = 0
      · subst hx
        have h2 : Inc (0 + 1) S := hi.2
        obtain ⟨e1, e2⟩ := inc_down 1 h2
        have h3 := pop_inc f _ e1 (by
          intro y hy
          obtain ⟨z, hz, rfl⟩ := List.mem_map.1 hy
          have := h z (by simp [hz])
          have := inc_mem h2 z hz
          omega)
        rw [sumP_cons, e2]
        have e3 : (2 ^ 0 + 2 ^ 1 * sumP (S.map (· - 1))) % 2 = 1 := by omega
        have e4 : (2 ^ 0 + 2 ^ 1 * sumP (S.map (· - 1))) / 2 = sumP (S.map (· - 1)) := by omega
        rw [e3, e4, h3, List.length_map, List.length_cons]; omega
      · have h2 : Inc (0 + 1) (x :: S) := ⟨by omega, hi.2⟩
        obtain ⟨e1, e2⟩ := inc_down 1 h2
        have h3 := pop_inc f _ e1 (by
          intro y hy
          obtain ⟨z, hz, rfl⟩ := List.mem_map.1 hy
          have := h z hz
          have := inc_mem h2 z hz
          omega)
        rw [e2]
        have e3 : (2 ^ 1 * sumP ((x :: S).map (· - 1))) % 2 = 0 := by omega
        have e4 : (2 ^ 1 * sumP ((x :: S).map (· - 1))) / 2 = sumP ((x :: S).map (· - 1)) := by omega
        rw [e3, e4, h3, List.length_map]; omega
theorem xor_high {k q x y : Nat} (hx : x < 2 ^ k) (hy : y < 2 ^ k) : (2 ^ k * q + x) ^^^ (2 ^ k * q + y) = x ^^^ y := by
  apply Nat.eq_of_testBit_eq
  intro i
  rw [Nat.testBit_xor, Nat.testBit_xor, Nat.testBit_two_pow_mul_add q hx, Nat.testBit_two_pow_mul_add q hy]
  by_cases h : i < k
  · rw [if_pos h, if_pos h]
  · rw [if_neg h, if_neg h]
    have e1 : x.testBit i = false := Nat.testBit_lt_two_pow (Nat.lt_of_lt_of_le hx (Nat.pow_le_pow_right (by omega) (by omega)))
    have e2 : y.testBit i = false := Nat.testBit_lt_two_pow (Nat.lt_of_lt_of_le hy (Nat.pow_le_pow_right (by omega) (by omega)))
    rw [e1, e2]; simp
theorem xor_top {k b r : Nat} (hb : b < 2 ^ k) (hr : r < 2 ^ k) : 2 ^ k ≤ (r ^^^ (2 ^ k + b)) ∧ (r ^^^ (2 ^ k + b)) < 2 ^ (k + 1) := by
  have hp : 2 ^ (k + 1) = 2 * 2 ^ k := by rw [Nat.pow_succ]; omega
  refine ⟨?_, Nat.xor_lt_two_pow (by omega) (by omega)⟩
  apply Nat.ge_two_pow_of_testBit
  rw [Nat.testBit_xor, Nat.testBit_lt_two_pow hr]
  have : (2 ^ k + b).testBit k = true := by
    rw [Nat.testBit_two_pow_add_eq, Nat.testBit_lt_two_pow hb]; rfl
  rw [this]; rfl
theorem find_peak {z : Int} {w : World} : ∀ {ps : List Pk} {lo : Nat}, (∀ p ∈ ps, PA z w p.h p.s p.k p.l) → lo < (leavesK ps).length → ∃ A p B, ps = A ++ p :: B ∧ (leavesK A).length ≤ lo ∧ lo < (leavesK A).length + 2 ^ p.h
  | [], lo, _, h => by simp [leavesK] at h
  | p :: ps, lo, hok, h => by
    have hp := (hok p (by simp)).len
    have e : leavesK (p :: ps) = p.l ++ leavesK ps := by simp [leavesK]
    rw [e, List.length_append, hp] at h
    by_cases hl : lo < 2 ^ p.h
    · exact ⟨[], p, ps, rfl, by simp [leavesK], by simpa [leavesK] using hl⟩
    · obtain ⟨A, q, B, rfl, h1, h2⟩ := find_peak (ps := ps) (lo := lo - 2 ^ p.h) (fun q hq => hok q (by simp [hq])) (by omega)
      have e2 : leavesK (p :: A) = p.l ++ leavesK A := by simp [leavesK]
      refine ⟨p :: A, q, B, rfl, ?_, ?_⟩ <;> rw [e2, List.length_append, hp] <;> omega
/-- The peak that holds the leaf lo. -/
theorem peak_at {z : Int} {w : World} {ps : List Pk} (h : PKs z w ps) {lo n : Nat} (hn : n = (leavesK ps).length) (hlo : lo < n) (hb : n < 32768) :
    ∃ A p B, ps = A ++ p :: B ∧ Lib.bitLen (lo ^^^ n) = p.h + 1 ∧ Lib.onesCount (n / 2 ^ (p.h + 1)) = A.length ∧ (leavesK A).length = lo / 2 ^ p.h * 2 ^ p.h ∧ p.h < 15 ∧ ∀ h, 2 ^ h ∣ lo → lo + 2 ^ h ≤ n → h ≤ p.h := by
  obtain ⟨A, p, B, rfl, h1, h2⟩ := find_peak h.ok (lo := lo) (by omega)
  have hi := h.inc
  rw [List.reverse_append, List.reverse_cons, List.append_assoc, List.map_append, List.singleton_append, List.map_cons] at hi
  obtain ⟨i1, i2, i3, i4⟩ := inc_split hi
  have lA := leavesK_len (ps := A) (fun q hq => h.ok q (by simp [hq]))
  have lB := leavesK_len (ps := B) (fun q hq => h.ok q (by simp [hq]))
  have lp := (h.ok p (by simp)).len
  have ltot : (leavesK (A ++ p :: B)).length = (leavesK A).length + 2 ^ p.h + (leavesK B).length := by
    rw [leavesK_app, List.length_append]
    have e : leavesK (p :: B) = p.l ++ leavesK B := by simp [leavesK]
    rw [e, List.length_append, lp]; omega
  have hB := inc_lt i3 i4 (Nat.zero_le _)
  obtain ⟨j1, j2⟩ := inc_down (b := 0) (p.h + 1) (by rw [Nat.zero_add]; exact i1)
  obtain ⟨q, hq⟩ : ∃ q, sumP ((A.reverse.map (·.h)).map (· - (p.h + 1))) = q := ⟨_, rfl⟩
  rw [hq] at j2
  obtain ⟨k, hk⟩ : ∃ k, p.h = k := ⟨_, rfl⟩
  rw [hk] at h2 ltot hB j1 j2 hq
  have hp0 : 1 ≤ 2 ^ k := Nat.one_le_two_pow
  have hp : 2 ^ (k + 1) = 2 * 2 ^ k := by rw [Nat.pow_succ]; omega
  obtain ⟨r, hr⟩ : ∃ r, lo = 2 ^ (k + 1) * q + r := ⟨lo - 2 ^ (k + 1) * q, by omega⟩
  have hr2 : r < 2 ^ k := by omega
  obtain ⟨b, hbb⟩ : ∃ b, (leavesK B).length = b := ⟨_, rfl⟩
  have hb2 : b < 2 ^ k := by omega
  have hn2 : n = 2 ^ (k + 1) * q + (2 ^ k + b) := by omega
  have hk12 : k < 15 := by
    rcases Nat.lt_or_ge k 15 with h9 | h9
    · exact h9
    · have : 2 ^ 15 ≤ 2 ^ k := Nat.pow_le_pow_right (by omega) h9
      omega
  refine ⟨A, p, B, rfl, ?_, ?_, ?_, ?_, ?_⟩
  · rw [hk]
    have hx := xor_top hb2 hr2
    have e : lo ^^^ n = r ^^^ (2 ^ k + b) := by rw [hr, hn2]; exact xor_high (by omega) (by omega)
    rw [e]
    have hlt : (r ^^^ (2 ^ k + b)) < 2 ^ 64 := Nat.lt_of_lt_of_le hx.2 (Nat.pow_le_pow_right (by omega) (by omega))
    rw [bitLen_log _ (by omega) hlt, (Nat.log2_eq_iff (by omega)).2 hx]
  · rw [hk]
    have e : n / 2 ^ (k + 1) = q := by
      rw [hn2, Nat.mul_add_div (by omega), Nat.div_eq_of_lt (by omega)]; omega
    rw [e]
    have hql : q < 32768 := by
      have : q ≤ 2 ^ (k + 1) * q := Nat.le_mul_of_pos_left q (by omega)
      omega
    have h9 := pop_inc 64 _ j1 (by
      intro y hy
      rcases Nat.lt_or_ge y 64 with h9 | h9
      · exact h9
      · have h8 : 2 ^ y ≤ q := by
          rw [← hq]
          obtain ⟨S1, S2, e⟩ := List.append_of_mem hy
          rw [e, sumP_app, sumP_cons]; omega
        have h7 : 2 ^ 64 ≤ 2 ^ y := Nat.pow_le_pow_right (by omega) h9
        omega)
    rw [hq] at h9
    unfold Lib.onesCount
    rw [h9]; simp
  · rw [hk]
    have e : lo / 2 ^ k = 2 * q := by
      have e2 : lo = 2 ^ k * (2 * q) + r := by rw [hr, hp, Nat.mul_comm 2 (2 ^ k), Nat.mul_assoc]
      rw [e2, Nat.mul_add_div (by omega), Nat.div_eq_of_lt hr2]; omega
    rw [e, lA, j2, hp, Nat.mul_comm (2 * q), ← Nat.mul_assoc, Nat.mul_comm 2]
  · rw [hk]; exact hk12
  · rw [hk]
    intro h hd hle
    rcases Nat.lt_or_ge k h with h9 | h9
    · exfalso
      obtain ⟨e, he⟩ : ∃ e, h = k + 1 + e := ⟨h - (k + 1), by omega⟩
      have h8 : 2 ^ (k + 1) ≤ 2 ^ h := Nat.pow_le_pow_right (by omega) (by omega)
      have h7 : 2 ^ (k + 1) ∣ lo := Nat.dvd_trans (Nat.pow_dvd_pow 2 (by omega)) hd
      rw [hr] at h7
      have h6 : 2 ^ (k + 1) ∣ r := (Nat.dvd_add_right (Nat.dvd_mul_right _ _)).1 h7
      have h5 : r = 0 := Nat.eq_zero_of_dvd_of_lt h6 (by omega)
      omega
    · exact h9
/-- The leaves of the whole subtree of the height h that holds lo. -/
def subL (L : List (List Nat)) (lo h : Nat) : List (List Nat) := (L.drop (lo / 2 ^ h * 2 ^ h)).take (2 ^ h)
theorem subL_kids {L : List (List Nat)} {lo h : Nat} {l0 l1 : List (List Nat)} (e : l0 ++ l1 = subL L lo (h + 1)) (h0 : l0.length = 2 ^ h) (h1 : l1.length = 2 ^ h) : (lo / 2 ^ h % 2 = 0 → l0 = subL L lo h) ∧ (lo / 2 ^ h % 2 = 1 → l1 = subL L lo h) := by
  have hp : 2 ^ (h + 1) = 2 ^ h * 2 := Nat.pow_succ ..
  have hd : lo / 2 ^ (h + 1) = lo / 2 ^ h / 2 := by rw [hp, Nat.div_div_eq_div_mul]
  obtain ⟨x, hx⟩ : ∃ x, lo / 2 ^ h = x := ⟨_, rfl⟩
  unfold subL at e ⊢
  rw [hd, hx, hp] at e
  rw [hx]
  constructor
  · intro hm
    have e1 : x / 2 * (2 ^ h * 2) = x * 2 ^ h := by
      have : x = x / 2 * 2 := by omega
      conv => rhs; rw [this]
      rw [Nat.mul_assoc, Nat.mul_comm 2]
    rw [e1] at e
    have h9 := congrArg (List.take (2 ^ h)) e
    rw [List.take_left' h0, List.take_take, Nat.min_eq_left (by omega)] at h9
    exact h9
  · intro hm
    have e1 : x / 2 * (2 ^ h * 2) + 2 ^ h = x * 2 ^ h := by
      have : x = x / 2 * 2 + 1 := by omega
      conv => rhs; rw [this]
      rw [Nat.add_mul, Nat.one_mul, Nat.mul_assoc, Nat.mul_comm 2]
    have h9 := congrArg (List.drop (2 ^ h)) e
    rw [List.drop_left' h0, List.drop_take, List.drop_drop] at h9
    rw [h9, e1]
    congr 1
    omega
theorem subL_all {L : List (List Nat)} {lo h : Nat} (hd : 2 ^ h ∣ lo) : subL L lo h = (L.drop lo).take (2 ^ h) := by
  unfold subL
  rw [Nat.div_mul_cancel hd]
theorem leaves_peak {A B : List Pk} {p : Pk} {lo : Nat} (ha : (leavesK A).length = lo / 2 ^ p.h * 2 ^ p.h) (hp : p.l.length = 2 ^ p.h) : p.l = subL (leavesK (A ++ p :: B)) lo p.h := by
  unfold subL
  have e : leavesK (A ++ p :: B) = leavesK A ++ (p.l ++ leavesK B) := by rw [leavesK_app]; simp [leavesK]
  rw [e, ← ha, List.drop_left, ← hp, List.take_left]
end Go.Proofs.YtajfaekfhohbmaaDoor
namespace Go.Proofs.YtajfaekfhohbmaaDoor
open Go.RowKit Go.BigFrame
set_option linter.unusedVariables false
set_option linter.unusedSimpArgs false

def sw1 (x : Nat) : Nat := ((x / 2) &&& 6148914691236517205) + (x &&& 6148914691236517205)
def sw2 (x : Nat) : Nat := ((x / 4) &&& 3689348814741910323) + (x &&& 3689348814741910323)
def sw3 (x : Nat) : Nat := (x / 16 + x) &&& 1085102592571150095
def sw4 (x : Nat) : Nat := x + x / 256
def sw5 (x : Nat) : Nat := x + x / 65536
def sw6 (x : Nat) : Nat := x + x / 4294967296
theorem pop_zero : ∀ (f : Nat), Lib.popAux f 0 = 0
  | 0 => rfl
  | f + 1 => by unfold Lib.popAux; rw [show (0 : Nat) / 2 = 0 from rfl, pop_zero f]
theorem pop_short : ∀ (k f x : Nat), x < 2 ^ k → k ≤ f → Lib.popAux f x = Lib.popAux k x
  | 0, f, x, h, _ => by
    have : x = 0 := by simpa using h
    rw [this, pop_zero, pop_zero]
  | k + 1, 0, x, h, hf => by omega
  | k + 1, f + 1, x, h, hf => by
    unfold Lib.popAux
    rw [pop_short k f (x / 2) (by rw [Nat.pow_succ] at h; omega) (by omega)]
def swC (x : Nat) : Bool := (sw6 (sw5 (sw4 (sw3 (sw2 (sw1 x))))) &&& 127) == Lib.popAux 15 x
def swL (k : Nat) : Nat → Bool
  | 0 => true
  | n + 1 => swC (256 * k + n) && swL k n
theorem swL_at (k : Nat) : ∀ (n j : Nat), swL k n = true → j < n → swC (256 * k + j) = true
  | 0, j, _, h => by omega
  | n + 1, j, h, hj => by
    unfold swL at h
    rw [Bool.and_eq_true] at h
    rcases Nat.lt_or_ge j n with h1 | h1
    · exact swL_at k n j h.2 h1
    · rw [show j = n by omega]; exact h.1
theorem sw_two : ∀ (k : Fin 128), swL k.val 256 = true := by decide +kernel
theorem sw_all (x : Nat) (hx : x < 32768) : (sw6 (sw5 (sw4 (sw3 (sw2 (sw1 x))))) &&& 127) = Lib.onesCount x := by
  have h := swL_at (x / 256) 256 (x % 256) (sw_two ⟨x / 256, by omega⟩) (by omega)
  have e : 256 * (x / 256) + x % 256 = x := by omega
  rw [e] at h
  unfold swC at h
  rw [beq_iff_eq] at h
  rw [h]
  exact (pop_short 15 64 x (by omega) (by omega)).symm
theorem i64_and_natT (x y : Nat) (hx : x < 9223372036854775808) (hy : y < 9223372036854775808) : bits BinOp.and IntKind.i64 (x : Int) (y : Int) = ((x &&& y : Nat) : Int) := by
  have h1 : (BitVec.ofInt 64 (x : Int)).toNat = x := by rw [BitVec.ofInt_natCast, BitVec.toNat_ofNat]; exact Nat.mod_eq_of_lt (by omega)
  have h2 : (BitVec.ofInt 64 (y : Int)).toNat = y := by rw [BitVec.ofInt_natCast, BitVec.toNat_ofNat]; exact Nat.mod_eq_of_lt (by omega)
  have h := Nat.and_lt_two_pow (n := 63) x (by simpa using hy)
  show IntKind.i64.wrap ((BitVec.ofInt 64 (x : Int) &&& BitVec.ofInt 64 (y : Int)).toNat : Int) = _
  rw [BitVec.toNat_and, h1, h2]
  simp [IntKind.wrap, IntKind.signed, IntKind.bits]
  omega
theorem wrU (y : Int) : IntKind.u64.wrap y = y % 18446744073709551616 := by simp [IntKind.wrap, IntKind.signed, IntKind.bits]
theorem sw1_le (x : Nat) : sw1 x ≤ 2 * x := by
  have h1 := Nat.and_le_left (n := x / 2) (m := 6148914691236517205)
  have h2 := Nat.and_le_left (n := x) (m := 6148914691236517205)
  unfold sw1; omega
theorem sw2_le (x : Nat) : sw2 x ≤ 2 * x := by
  have h1 := Nat.and_le_left (n := x / 4) (m := 3689348814741910323)
  have h2 := Nat.and_le_left (n := x) (m := 3689348814741910323)
  unfold sw2; omega
theorem sw3_le (x : Nat) : sw3 x ≤ 2 * x := by
  have h1 := Nat.and_le_left (n := x / 16 + x) (m := 1085102592571150095)
  unfold sw3; omega
theorem sw1_eq (x : Nat) (h : x ≤ 1000000000) : IntKind.u64.wrap (bits BinOp.and IntKind.u64 ((x : Int) / 2) 6148914691236517205 + bits BinOp.and IntKind.u64 (x : Int) 6148914691236517205) = ((sw1 x : Nat) : Int) := by
  have e1 := u64_and_natT (x / 2) 6148914691236517205 (by omega) (by omega)
  have e2 := u64_and_natT x 6148914691236517205 (by omega) (by omega)
  have e3 := sw1_le x
  have c1 : ((x / 2 : Nat) : Int) = (x : Int) / 2 := by omega
  have c2 : ((6148914691236517205 : Nat) : Int) = 6148914691236517205 := rfl
  rw [c1, c2] at e1
  rw [c2] at e2
  rw [e1, e2, wrU]
  unfold sw1 at e3 ⊢
  omega
theorem sw2_eq (x : Nat) (h : x ≤ 1000000000) : IntKind.u64.wrap (bits BinOp.and IntKind.u64 ((x : Int) / 4) 3689348814741910323 + bits BinOp.and IntKind.u64 (x : Int) 3689348814741910323) = ((sw2 x : Nat) : Int) := by
  have e1 := u64_and_natT (x / 4) 3689348814741910323 (by omega) (by omega)
  have e2 := u64_and_natT x 3689348814741910323 (by omega) (by omega)
  have e3 := sw2_le x
  have c1 : ((x / 4 : Nat) : Int) = (x : Int) / 4 := by omega
  have c2 : ((3689348814741910323 : Nat) : Int) = 3689348814741910323 := rfl
  rw [c1, c2] at e1
  rw [c2] at e2
  rw [e1, e2, wrU]
  unfold sw2 at e3 ⊢
  omega
theorem sw3_eq (x : Nat) (h : x ≤ 1000000000) : bits BinOp.and IntKind.u64 (IntKind.u64.wrap ((x : Int) / 16 + (x : Int))) 1085102592571150095 = ((sw3 x : Nat) : Int) := by
  have e1 := u64_and_natT (x / 16 + x) 1085102592571150095 (by omega) (by omega)
  have c1 : ((x / 16 + x : Nat) : Int) = IntKind.u64.wrap ((x : Int) / 16 + x) := by rw [wrU]; omega
  have c2 : ((1085102592571150095 : Nat) : Int) = 1085102592571150095 := rfl
  rw [c1, c2] at e1
  exact e1
theorem sw4_eq (x : Nat) (h : x ≤ 1000000000) : IntKind.u64.wrap ((x : Int) + (x : Int) / 256) = ((sw4 x : Nat) : Int) := by rw [wrU]; unfold sw4; omega
theorem sw5_eq (x : Nat) (h : x ≤ 1000000000) : IntKind.u64.wrap ((x : Int) + (x : Int) / 65536) = ((sw5 x : Nat) : Int) := by rw [wrU]; unfold sw5; omega
theorem sw6_eq (x : Nat) (h : x ≤ 1000000000) : IntKind.u64.wrap ((x : Int) + (x : Int) / 4294967296) = ((sw6 x : Nat) : Int) := by rw [wrU]; unfold sw6; omega

set_option maxRecDepth 100000 in
set_option maxHeartbeats 1000000 in
theorem ones64_any (x : Nat) (w : World) (hx : x < 32768) :
    Calls Tryd.prog 82 #[.int .u64 x] w fun e w' => e = .returned (.int .i64 (Lib.onesCount x)) ∧ w' = w := by
  have b1 := sw1_le x
  have b2 := sw2_le (sw1 x)
  have b3 := sw3_le (sw2 (sw1 x))
  have b4 : sw4 (sw3 (sw2 (sw1 x))) ≤ 2 * sw3 (sw2 (sw1 x)) := by unfold sw4; omega
  have b5 : sw5 (sw4 (sw3 (sw2 (sw1 x)))) ≤ 2 * sw4 (sw3 (sw2 (sw1 x))) := by unfold sw5; omega
  have b6 : sw6 (sw5 (sw4 (sw3 (sw2 (sw1 x))))) ≤ 2 * sw5 (sw4 (sw3 (sw2 (sw1 x)))) := by unfold sw6; omega
  have HE := hide (sw_all x hx)
  have E1 := hide (sw1_eq x (by omega))
  have E2 := hide (sw2_eq (sw1 x) (by omega))
  have E3 := hide (sw3_eq (sw2 (sw1 x)) (by omega))
  have E4 := hide (sw4_eq (sw3 (sw2 (sw1 x))) (by omega))
  have E5 := hide (sw5_eq (sw4 (sw3 (sw2 (sw1 x)))) (by omega))
  have E6 := hide (sw6_eq (sw5 (sw4 (sw3 (sw2 (sw1 x))))) (by omega))
  have B := hide (by omega : sw6 (sw5 (sw4 (sw3 (sw2 (sw1 x))))) ≤ 1000000000)
  clear b1 b2 b3 b4 b5 b6
  go_enter Tryd.func82, Tryd.ntmps82
  go_wp2_with fail
  go_ret
  refine ⟨?_, rfl⟩
  simp only [unhide E1, unhide E2, unhide E3, unhide E4, unhide E5, unhide E6]
  show Ending.returned (Value.int .i64 (bits BinOp.and IntKind.i64 (wrap64 ((sw6 (sw5 (sw4 (sw3 (sw2 (sw1 x)))))  : Nat) : Int)) 127)) = _
  have hB := unhide B
  rw [show wrap64 ((sw6 (sw5 (sw4 (sw3 (sw2 (sw1 x))))) : Nat) : Int) = ((sw6 (sw5 (sw4 (sw3 (sw2 (sw1 x))))) : Nat) : Int) from by unfold wrap64; omega]
  have h9 := i64_and_natT (sw6 (sw5 (sw4 (sw3 (sw2 (sw1 x)))))) 127 (by omega) (by omega)
  rw [unhide HE] at h9
  exact congrArg (fun y => Ending.returned (Value.int .i64 y)) h9
end Go.Proofs.YtajfaekfhohbmaaDoor
/-
  A region that draws its order, with loads that must come ahead of SOME of its stores only ('a, b = b, a' of whole rows): what holds of the world hangs on what has been carried out. No program.
-/
namespace Go.Proofs.YtajfaekfhohbmaaDoor
open Go
set_option linter.unusedVariables false
set_option linter.unusedSimpArgs false
section
variable {P : Program} {ops : Array Oper} {Q : Exit → Act → World → Prop} {md : Region.Mode} {S : Array Bool → World → Prop}

/-- Whatever comes up, S holds of what has come up and of the world behind it. -/
def AnyL (P : Program) (md : Region.Mode) (ops : Array Oper) (Q : Exit → Act → World → Prop) (S : Array Bool → World → Prop) : Nat → Array Bool → Act → World → Prop
  | 0, d, a, w => Region.ready md ops d = [] ∧ Q .normal a w
  | g + 1, d, a, w => (Region.ready md ops d = [] → Q .normal a w) ∧ ∀ i ∈ Region.ready md ops d, wpOp P ops Q i (fun a' w' => S (d.setIfInBounds i true) w' ∧ AnyL P md ops Q S g (d.setIfInBounds i true) a' w') a w

theorem AnyL.any : ∀ (g : Nat) (d : Array Bool) (a : Act) (w : World), AnyL P md ops Q S g d a w → wpAny P md ops Q g d a w
  | 0, _, _, _, h => h
  | g + 1, _, _, _, h => ⟨h.1, fun i hi => wpOp_mono (fun a' w' h' => AnyL.any g _ a' w' h'.2) (h.2 i hi)⟩

/-- Number i may be taken first, if it yields its value in every world that meets T, S says T as long as number t has not come up, and t waits for i. -/
theorem AnyL.first {i t : Nat} {oi ot : Oper} {v : Value} {T : World → Prop} (hi : ops[i]? = some oi) (ht : ops[t]? = some ot) (hit : t ≠ i) (hb : ∃ e ∈ ot.after, Region.binds md e = true ∧ e.on = i)
    (hsel : ∀ (j : Nat) (o : Oper) cs b, ops[j]? = some o → o.op ≠ .select cs b) (hQ : ∀ c a w, Q (.panic c) (a.put oi.dst v) w → Q (.panic c) a w)
    (hST : ∀ d w, S d w → d.getD t true = false → T w) (hSi : ∀ d w, S (d.setIfInBounds i true) w ↔ S d w) :
    ∀ (g : Nat) (d : Array Bool) (a : Act) (w : World),
      (∀ j oj, ops[j]? = some oj → j ≠ i → d.getD j true = false → (∀ e ∈ oj.after, Region.binds md e = true → e.on ≠ i) → oi.apart ops oj = true) →
      i ∈ Region.ready md ops d → YieldsIf P ops T oi v a → d.getD t true = false → S d w →
      AnyL P md ops Q S g (d.setIfInBounds i true) (a.put oi.dst v) w → AnyL P md ops Q S (g + 1) d a w := by
  intro g
  induction g with
  | zero =>
    intro d a w _ hr hy hdt hS H
    refine ⟨fun h => (by rw [h] at hr; cases hr), fun j hj => ?_⟩
    by_cases hji : j = i
    · subst hji; exact hy.wpOp hi (hST d w hS hdt) ⟨(hSi d w).2 hS, H⟩
    · have := ready_mono hj hji
      rw [H.1] at this
      cases this
  | succ g ih =>
    intro d a w hfree hr hy hdt hS H
    refine ⟨fun h => (by rw [h] at hr; cases hr), fun j hj => ?_⟩
    by_cases hji : j = i
    · subst hji; exact hy.wpOp hi (hST d w hS hdt) ⟨(hSi d w).2 hS, H⟩
    · have h1 := H.2 j (ready_mono hj hji)
      obtain ⟨hjun, oj, hoj, hall⟩ := mem_ready.1 hj
      have hnot : ∀ e ∈ oj.after, Region.binds md e = true → e.on ≠ i := fun e he hb heq => by
        have h1 := hall e he hb
        have h0 := (mem_ready.1 hr).1
        rw [heq] at h1
        rcases Nat.lt_or_ge i d.size with h' | h'
        · simp [h'] at h0 h1; rw [h0] at h1; cases h1
        · simp [Array.getElem?_eq_none h'] at h1
      have hjt : j ≠ t := fun e9 => by
        subst e9
        rw [ht] at hoj
        injection hoj with hoj
        obtain ⟨e, he, hb1, hb2⟩ := hb
        exact hnot e (by rw [← hoj]; exact he) hb1 hb2
      have h2 := wpOp_putIf hoj (hfree j oj hoj hji hjun hnot) (fun cs b => hsel i oi cs b hi) (fun cs b => hsel j oj cs b hoj) hQ hy h1
      refine wpOp_mono (fun a' w' h3 => ?_) h2
      have hc := Array.setIfInBounds_comm (xs := d) true true hji
      have hS' : S (d.setIfInBounds j true) w' := (hSi _ w').1 (by rw [hc]; exact h3.2.1)
      refine ⟨hS', ih (d.setIfInBounds j true) a' w' (fun k ok hk hki hun hno => ?_) (ready_mono hr (Ne.symm hji)) h3.1 ?_ hS' ?_⟩
      · refine hfree k ok hk hki ?_ hno
        by_cases hjk : j = k
        · subst hjk; exact hjun
        · rw [getD_set_ne true hjk] at hun; exact hun
      · rw [getD_set_ne true hjt]; exact hdt
      · rw [hc]; exact h3.2.2
theorem AnyL.take {i t : Nat} {oi ot : Oper} {v : Value} {T : World → Prop} {g : Nat} {d : Array Bool} {a : Act} {w : World} (hi : ops[i]? = some oi) (ht : ops[t]? = some ot) (hit : t ≠ i) (hs : Region.noSelect ops = true) (hf : Region.free md ops d i = true)
    (hr : (Region.ready md ops d).contains i = true) (hb : ot.after.any (fun e => Region.binds md e && e.on == i) = true) (hQ : ∀ c a w, Q (.panic c) (a.put oi.dst v) w → Q (.panic c) a w)
    (hST : ∀ d w, S d w → d.getD t true = false → T w) (hSi : ∀ d w, S (d.setIfInBounds i true) w ↔ S d w) (hy : YieldsIf P ops T oi v a) (hd : d.getD t true = false) (hS : S d w)
    (h : AnyL P md ops Q S g (d.setIfInBounds i true) (a.put oi.dst v) w) : AnyL P md ops Q S (g + 1) d a w := by
  refine AnyL.first hi ht hit ?_ (Region.noSelect_spec hs) hQ hST hSi g d a w (Region.free_spec hi hf) (by simpa using hr) hy hd hS h
  obtain ⟨e, he, h9⟩ := Array.any_eq_true'.1 hb
  simp only [Bool.and_eq_true, beq_iff_eq] at h9
  exact ⟨e, he, h9⟩
theorem AnyL.forced {i : Nat} {o : Oper} {g : Nat} {d : Array Bool} {a : Act} {w : World} (hr : Region.ready md ops d = [i]) (ho : ops[i]? = some o) (hg : o.guard = none)
    (h : ∀ K : Act → World → Prop, (∀ a' w', S (d.setIfInBounds i true) w' → AnyL P md ops Q S g (d.setIfInBounds i true) a' w' → K a' w') → o.wp P a w K Q) : AnyL P md ops Q S (g + 1) d a w := by
  refine ⟨fun h0 => (by rw [hr] at h0; cases h0), fun j hj => ?_⟩
  rw [hr] at hj
  obtain rfl : j = i := by simpa using hj
  refine wpOp_step ho (fun K' hK => ?_)
  rw [if_pos (by unfold Region.wanted; rw [hg])]
  exact h K' (fun a' w' h1 h2 => hK a' w' ⟨h1, h2⟩)
end

section
variable {P : Program} {Q : Exit → Act → World → Prop}
theorem wp_swap8 {id : Nat} {o0 o1 o2 o3 o4 o5 o6 o7 : Oper} {a : Act} {w : World} (T4 T6 : World → Prop) (hm : P.follows .mixedOrders = true) (hs : Region.noSelect #[o0, o1, o2, o3, o4, o5, o6, o7] = true)
    (f0 : Region.free .any #[o0, o1, o2, o3, o4, o5, o6, o7] #[false, false, false, false, false, false, false, false] 0 = true) (r0 : (Region.ready .any #[o0, o1, o2, o3, o4, o5, o6, o7] #[false, false, false, false, false, false, false, false]).contains 0 = true) (e0 : o4.after.any (fun e => Region.binds .any e && e.on == 0) = true)
    (f1 : Region.free .any #[o0, o1, o2, o3, o4, o5, o6, o7] #[true, false, false, false, false, false, false, false] 1 = true) (r1 : (Region.ready .any #[o0, o1, o2, o3, o4, o5, o6, o7] #[true, false, false, false, false, false, false, false]).contains 1 = true) (e1 : o4.after.any (fun e => Region.binds .any e && e.on == 1) = true)
    (f2 : Region.free .any #[o0, o1, o2, o3, o4, o5, o6, o7] #[true, true, false, false, false, false, false, false] 2 = true) (r2 : (Region.ready .any #[o0, o1, o2, o3, o4, o5, o6, o7] #[true, true, false, false, false, false, false, false]).contains 2 = true) (e2 : o6.after.any (fun e => Region.binds .any e && e.on == 2) = true)
    (f3 : Region.free .any #[o0, o1, o2, o3, o4, o5, o6, o7] #[true, true, true, false, false, false, false, false] 3 = true) (r3 : (Region.ready .any #[o0, o1, o2, o3, o4, o5, o6, o7] #[true, true, true, false, false, false, false, false]).contains 3 = true) (e3 : o4.after.any (fun e => Region.binds .any e && e.on == 3) = true)
    (r4 : Region.ready .any #[o0, o1, o2, o3, o4, o5, o6, o7] #[true, true, true, true, false, false, false, false] = [4]) (g4 : o4.guard = none)
    (r5 : Region.ready .any #[o0, o1, o2, o3, o4, o5, o6, o7] #[true, true, true, true, true, false, false, false] = [5]) (g5 : o5.guard = none)
    (r6 : Region.ready .any #[o0, o1, o2, o3, o4, o5, o6, o7] #[true, true, true, true, true, true, false, false] = [6]) (g6 : o6.guard = none)
    (r7 : Region.ready .any #[o0, o1, o2, o3, o4, o5, o6, o7] #[true, true, true, true, true, true, true, false] = [7]) (g7 : o7.guard = none)
    (rr : Region.ready .any #[o0, o1, o2, o3, o4, o5, o6, o7] #[true, true, true, true, true, true, true, true] = []) (hT4 : T4 w.drew) (hT6 : T6 w.drew) (v0 v1 v2 v3 : Value) (A0 A1 A2 A3 : Act)
    (p0 : a.put o0.dst v0 = A0) (p1 : A0.put o1.dst v1 = A1) (p2 : A1.put o2.dst v2 = A2) (p3 : A2.put o3.dst v3 = A3)
    (hy0 : YieldsIf P #[o0, o1, o2, o3, o4, o5, o6, o7] T4 o0 v0 a) (hy1 : YieldsIf P #[o0, o1, o2, o3, o4, o5, o6, o7] T4 o1 v1 A0) (hy2 : YieldsIf P #[o0, o1, o2, o3, o4, o5, o6, o7] T6 o2 v2 A1) (hy3 : YieldsIf P #[o0, o1, o2, o3, o4, o5, o6, o7] T4 o3 v3 A2)
    (W1 W2 W3 W4 : World) (s4 : ∀ K : Act → World → Prop, K A3 W1 → o4.wp P A3 w.drew K (NoPanic Q)) (k4 : T6 W1) (s5 : ∀ K : Act → World → Prop, K A3 W2 → o5.wp P A3 W1 K (NoPanic Q)) (k5 : T6 W2)
    (s6 : ∀ K : Act → World → Prop, K A3 W3 → o6.wp P A3 W2 K (NoPanic Q)) (s7 : ∀ K : Act → World → Prop, K A3 W4 → o7.wp P A3 W3 K (NoPanic Q)) (h : Q .normal A3 W4) :
    (Code.region id #[o0, o1, o2, o3, o4, o5, o6, o7] true).wp P Q a w := by
  subst p0 p1 p2 p3
  refine wp_region_noPanic ?_
  refine wp_region_any hm ?_
  refine AnyL.any (S := fun d w' => (d.getD 4 true = false → T4 w') ∧ (d.getD 6 true = false → T6 w')) _ _ _ _ ?_
  show AnyL P .any #[o0, o1, o2, o3, o4, o5, o6, o7] (NoPanic Q) _ 8 #[false, false, false, false, false, false, false, false] a w.drew
  have hSi : ∀ i, i ≠ 4 → i ≠ 6 → ∀ (d : Array Bool) (w' : World), (((d.setIfInBounds i true).getD 4 true = false → T4 w') ∧ ((d.setIfInBounds i true).getD 6 true = false → T6 w')) ↔ ((d.getD 4 true = false → T4 w') ∧ (d.getD 6 true = false → T6 w')) := by
    intro i h4 h6 d w'
    rw [getD_set_ne true h4, getD_set_ne true h6]
  have hS0 : ∀ d : Array Bool, (d.getD 4 true = false → T4 w.drew) ∧ (d.getD 6 true = false → T6 w.drew) := fun d => ⟨fun _ => hT4, fun _ => hT6⟩
  refine AnyL.take (i := 0) (t := 4) (oi := o0) (ot := o4) (T := T4) rfl rfl (by decide) hs f0 r0 e0 (fun _ _ _ h => h) (fun d w' h9 hd => h9.1 hd) (hSi 0 (by decide) (by decide)) hy0 rfl (hS0 _) ?_
  refine AnyL.take (i := 1) (t := 4) (oi := o1) (ot := o4) (T := T4) rfl rfl (by decide) hs f1 r1 e1 (fun _ _ _ h => h) (fun d w' h9 hd => h9.1 hd) (hSi 1 (by decide) (by decide)) hy1 rfl (hS0 _) ?_
  refine AnyL.take (i := 2) (t := 6) (oi := o2) (ot := o6) (T := T6) rfl rfl (by decide) hs f2 r2 e2 (fun _ _ _ h => h) (fun d w' h9 hd => h9.2 hd) (hSi 2 (by decide) (by decide)) hy2 rfl (hS0 _) ?_
  refine AnyL.take (i := 3) (t := 4) (oi := o3) (ot := o4) (T := T4) rfl rfl (by decide) hs f3 r3 e3 (fun _ _ _ h => h) (fun d w' h9 hd => h9.1 hd) (hSi 3 (by decide) (by decide)) hy3 rfl (hS0 _) ?_
  refine AnyL.forced r4 rfl g4 (fun K hK => s4 K (hK _ _ ⟨fun h9 => (by cases h9), fun _ => k4⟩ ?_))
  refine AnyL.forced r5 rfl g5 (fun K hK => s5 K (hK _ _ ⟨fun h9 => (by cases h9), fun _ => k5⟩ ?_))
  refine AnyL.forced r6 rfl g6 (fun K hK => s6 K (hK _ _ ⟨fun h9 => (by cases h9), fun h9 => (by cases h9)⟩ ?_))
  refine AnyL.forced r7 rfl g7 (fun K hK => s7 K (hK _ _ ⟨fun h9 => (by cases h9), fun h9 => (by cases h9)⟩ ?_))
  exact ⟨rr, NoPanic.normal h⟩
theorem wp_asg4 {id : Nat} {o0 o1 o2 o3 : Oper} {a : Act} {w : World} (S : World → Prop) (hm : P.follows .mixedOrders = true) (hs : Region.noSelect #[o0, o1, o2, o3] = true)
    (f0 : Region.free .any #[o0, o1, o2, o3] #[false, false, false, false] 0 = true) (r0 : (Region.ready .any #[o0, o1, o2, o3] #[false, false, false, false]).contains 0 = true) (f1 : Region.free .any #[o0, o1, o2, o3] #[true, false, false, false] 1 = true) (r1 : (Region.ready .any #[o0, o1, o2, o3] #[true, false, false, false]).contains 1 = true)
    (r2 : Region.ready .any #[o0, o1, o2, o3] #[true, true, false, false] = [2]) (r3 : Region.ready .any #[o0, o1, o2, o3] #[true, true, true, false] = [3]) (rr : Region.ready .any #[o0, o1, o2, o3] #[true, true, true, true] = []) (g2 : o2.guard = none) (g3 : o3.guard = none)
    (hS : S w.drew) (v0 v1 : Value) (A0 A1 : Act) (p0 : a.put o0.dst v0 = A0) (p1 : A0.put o1.dst v1 = A1) (hy0 : YieldsIf P #[o0, o1, o2, o3] S o0 v0 a) (hy1 : YieldsIf P #[o0, o1, o2, o3] S o1 v1 A0)
    (W1 W2 : World) (s2 : ∀ K : Act → World → Prop, K A1 W1 → o2.wp P A1 w.drew K (NoPanic Q)) (k2 : S W1) (s3 : ∀ K : Act → World → Prop, K A1 W2 → o3.wp P A1 W1 K (NoPanic Q)) (k3 : S W2) (h : Q .normal A1 W2) :
    (Code.region id #[o0, o1, o2, o3] true).wp P Q a w := by
  subst p0 p1
  refine wp_region_noPanic ?_
  refine wp_region_held_drew (S := S) hm hS (fun hH => ?_)
  show wpAnyH P .any #[o0, o1, o2, o3] (NoPanic Q) S 4 #[false, false, false, false] a w.drew
  refine wpAnyH_take (i := 0) (oi := o0) rfl hs f0 r0 (fun _ _ _ h => h) hy0 hS ?_
  refine wpAnyH_take (i := 1) (oi := o1) rfl hs f1 r1 (fun _ _ _ h => h) hy1 hS ?_
  refine wpAnyH_ready (rs := [2]) r2 (by simp) (AllReadyH.cons (o := o2) rfl (fun K hK => ?_) AllReadyH.nil)
  have wa : ∀ y, Region.wanted o2 y = true := fun y => by unfold Region.wanted; rw [g2]
  rw [if_pos (wa _)]
  refine s2 K (hK.out _ _ k2 (fun _ => ?_))
  refine wpAnyH_ready (rs := [3]) r3 (by simp) (AllReadyH.cons (o := o3) rfl (fun K hK => ?_) AllReadyH.nil)
  have wb : ∀ y, Region.wanted o3 y = true := fun y => by unfold Region.wanted; rw [g3]
  rw [if_pos (wb _)]
  refine s3 K (hK.out _ _ k3 (fun _ => ?_))
  exact ⟨rr, NoPanic.normal h⟩
end
end Go.Proofs.YtajfaekfhohbmaaDoor
/-
  Laws for drawn regions with a late store, by genchain.py. No program.
-/
namespace Go.Proofs.YtajfaekfhohbmaaDoor
open Go Go.RowKit Go.BigFrame
set_option linter.unusedVariables false
set_option linter.unusedSimpArgs false
section
variable {P : Program} {Q : Exit → Act → World → Prop}
theorem wp_pu12 {id : Nat} {o0 o1 o2 o3 o4 o5 o6 o7 o8 o9 o10 o11 : Oper} {a : Act} {w : World} (hm : P.follows .mixedOrders = true) (hs : Region.noSelect #[o0, o1, o2, o3, o4, o5, o6, o7, o8, o9, o10, o11] = true)
    (f0 : Region.free .any #[o0, o1, o2, o3, o4, o5, o6, o7, o8, o9, o10, o11] #[false, false, false, false, false, false, false, false, false, false, false, false] 0 = true) (r0 : (Region.ready .any #[o0, o1, o2, o3, o4, o5, o6, o7, o8, o9, o10, o11] #[false, false, false, false, false, false, false, false, false, false, false, false]).contains 0 = true) (e0 : o11.after.any (fun e => Region.binds .any e && e.on == 0) = true)
    (f1 : Region.free .any #[o0, o1, o2, o3, o4, o5, o6, o7, o8, o9, o10, o11] #[true, false, false, false, false, false, false, false, false, false, false, false] 1 = true) (r1 : (Region.ready .any #[o0, o1, o2, o3, o4, o5, o6, o7, o8, o9, o10, o11] #[true, false, false, false, false, false, false, false, false, false, false, false]).contains 1 = true) (e1 : o11.after.any (fun e => Region.binds .any e && e.on == 1) = true)
    (f2 : Region.free .any #[o0, o1, o2, o3, o4, o5, o6, o7, o8, o9, o10, o11] #[true, true, false, false, false, false, false, false, false, false, false, false] 2 = true) (r2 : (Region.ready .any #[o0, o1, o2, o3, o4, o5, o6, o7, o8, o9, o10, o11] #[true, true, false, false, false, false, false, false, false, false, false, false]).contains 2 = true) (e2 : o11.after.any (fun e => Region.binds .any e && e.on == 2) = true)
    (f3 : Region.free .any #[o0, o1, o2, o3, o4, o5, o6, o7, o8, o9, o10, o11] #[true, true, true, false, false, false, false, false, false, false, false, false] 3 = true) (r3 : (Region.ready .any #[o0, o1, o2, o3, o4, o5, o6, o7, o8, o9, o10, o11] #[true, true, true, false, false, false, false, false, false, false, false, false]).contains 3 = true) (e3 : o11.after.any (fun e => Region.binds .any e && e.on == 3) = true)
    (f4 : Region.free .any #[o0, o1, o2, o3, o4, o5, o6, o7, o8, o9, o10, o11] #[true, true, true, true, false, false, false, false, false, false, false, false] 4 = true) (r4 : (Region.ready .any #[o0, o1, o2, o3, o4, o5, o6, o7, o8, o9, o10, o11] #[true, true, true, true, false, false, false, false, false, false, false, false]).contains 4 = true) (e4 : o11.after.any (fun e => Region.binds .any e && e.on == 4) = true)
    (f5 : Region.free .any #[o0, o1, o2, o3, o4, o5, o6, o7, o8, o9, o10, o11] #[true, true, true, true, true, false, false, false, false, false, false, false] 5 = true) (r5 : (Region.ready .any #[o0, o1, o2, o3, o4, o5, o6, o7, o8, o9, o10, o11] #[true, true, true, true, true, false, false, false, false, false, false, false]).contains 5 = true) (e5 : o11.after.any (fun e => Region.binds .any e && e.on == 5) = true)
    (f6 : Region.free .any #[o0, o1, o2, o3, o4, o5, o6, o7, o8, o9, o10, o11] #[true, true, true, true, true, true, false, false, false, false, false, false] 6 = true) (r6 : (Region.ready .any #[o0, o1, o2, o3, o4, o5, o6, o7, o8, o9, o10, o11] #[true, true, true, true, true, true, false, false, false, false, false, false]).contains 6 = true) (e6 : o11.after.any (fun e => Region.binds .any e && e.on == 6) = true)
    (q7 : Region.ready .any #[o0, o1, o2, o3, o4, o5, o6, o7, o8, o9, o10, o11] #[true, true, true, true, true, true, true, false, false, false, false, false] = [7]) (g7 : o7.guard = none)
    (q8 : Region.ready .any #[o0, o1, o2, o3, o4, o5, o6, o7, o8, o9, o10, o11] #[true, true, true, true, true, true, true, true, false, false, false, false] = [8]) (g8 : o8.guard = none)
    (q9 : Region.ready .any #[o0, o1, o2, o3, o4, o5, o6, o7, o8, o9, o10, o11] #[true, true, true, true, true, true, true, true, true, false, false, false] = [9]) (g9 : o9.guard = none)
    (q10 : Region.ready .any #[o0, o1, o2, o3, o4, o5, o6, o7, o8, o9, o10, o11] #[true, true, true, true, true, true, true, true, true, true, false, false] = [10]) (g10 : o10.guard = none)
    (q11 : Region.ready .any #[o0, o1, o2, o3, o4, o5, o6, o7, o8, o9, o10, o11] #[true, true, true, true, true, true, true, true, true, true, true, false] = [11]) (g11 : o11.guard = none)
    (rr : Region.ready .any #[o0, o1, o2, o3, o4, o5, o6, o7, o8, o9, o10, o11] #[true, true, true, true, true, true, true, true, true, true, true, true] = [])
    (v0 v1 v2 v3 v4 v5 v6 : Value) (A0 A1 A2 A3 A4 A5 A6 : Act) (T : World → Prop)
    (I0 : World → Prop)
    (I1 : Value → World → Prop)
    (I2 : Value → Value → World → Prop)
    (I3 : Value → Value → Value → World → Prop)
    (I4 : Value → Value → Value → Value → World → Prop)
    (IE : Value → Value → Value → Value → World → Prop)
    (p0 : a.put o0.dst v0 = A0) (hy0 : YieldsIf P #[o0, o1, o2, o3, o4, o5, o6, o7, o8, o9, o10, o11] T o0 v0 a)
    (p1 : A0.put o1.dst v1 = A1) (hy1 : YieldsIf P #[o0, o1, o2, o3, o4, o5, o6, o7, o8, o9, o10, o11] T o1 v1 A0)
    (p2 : A1.put o2.dst v2 = A2) (hy2 : YieldsIf P #[o0, o1, o2, o3, o4, o5, o6, o7, o8, o9, o10, o11] T o2 v2 A1)
    (p3 : A2.put o3.dst v3 = A3) (hy3 : YieldsIf P #[o0, o1, o2, o3, o4, o5, o6, o7, o8, o9, o10, o11] T o3 v3 A2)
    (p4 : A3.put o4.dst v4 = A4) (hy4 : YieldsIf P #[o0, o1, o2, o3, o4, o5, o6, o7, o8, o9, o10, o11] T o4 v4 A3)
    (p5 : A4.put o5.dst v5 = A5) (hy5 : YieldsIf P #[o0, o1, o2, o3, o4, o5, o6, o7, o8, o9, o10, o11] T o5 v5 A4)
    (p6 : A5.put o6.dst v6 = A6) (hy6 : YieldsIf P #[o0, o1, o2, o3, o4, o5, o6, o7, o8, o9, o10, o11] T o6 v6 A5)
    (i0 : I0 w.drew)
    (hIT : (∀ w', I0  w' → T w') ∧ (∀ (u0 : Value) w', I1 u0 w' → T w') ∧ (∀ (u0 u1 : Value) w', I2 u0 u1 w' → T w') ∧ (∀ (u0 u1 u2 : Value) w', I3 u0 u1 u2 w' → T w') ∧ (∀ (u0 u1 u2 u3 : Value) w', I4 u0 u1 u2 u3 w' → T w'))
    (s0 : ∀ w', I0  w' → ∀ K : Act → World → Prop, (∀ (u0 : Value) w2, I1 u0 w2 → K (A6.put o7.dst u0) w2) → o7.wp P A6 w' K (NoPanic Q))
    (s1 : ∀ (u0 : Value) w', I1 u0 w' → ∀ K : Act → World → Prop, (∀ (u1 : Value) w2, I2 u0 u1 w2 → K ((A6.put o7.dst u0).put o8.dst u1) w2) → o8.wp P (A6.put o7.dst u0) w' K (NoPanic Q))
    (s2 : ∀ (u0 u1 : Value) w', I2 u0 u1 w' → ∀ K : Act → World → Prop, (∀ (u2 : Value) w2, I3 u0 u1 u2 w2 → K (((A6.put o7.dst u0).put o8.dst u1).put o9.dst u2) w2) → o9.wp P ((A6.put o7.dst u0).put o8.dst u1) w' K (NoPanic Q))
    (s3 : ∀ (u0 u1 u2 : Value) w', I3 u0 u1 u2 w' → ∀ K : Act → World → Prop, (∀ (u3 : Value) w2, I4 u0 u1 u2 u3 w2 → K ((((A6.put o7.dst u0).put o8.dst u1).put o9.dst u2).put o10.dst u3) w2) → o10.wp P (((A6.put o7.dst u0).put o8.dst u1).put o9.dst u2) w' K (NoPanic Q))
    (se : ∀ (u0 u1 u2 u3 : Value) w', I4 u0 u1 u2 u3 w' → ∀ K : Act → World → Prop, (∀ w2, IE u0 u1 u2 u3 w2 → K ((((A6.put o7.dst u0).put o8.dst u1).put o9.dst u2).put o10.dst u3) w2) → o11.wp P ((((A6.put o7.dst u0).put o8.dst u1).put o9.dst u2).put o10.dst u3) w' K (NoPanic Q))
    (h : ∀ (u0 u1 u2 u3 : Value) w', IE u0 u1 u2 u3 w' → Q .normal ((((A6.put o7.dst u0).put o8.dst u1).put o9.dst u2).put o10.dst u3) w') :
    (Code.region id #[o0, o1, o2, o3, o4, o5, o6, o7, o8, o9, o10, o11] true).wp P Q a w := by
  subst p0 p1 p2 p3 p4 p5 p6
  obtain ⟨z0, z1, z2, z3, z4⟩ := hIT
  refine wp_region_noPanic ?_
  refine wp_region_any hm ?_
  refine AnyL.any (S := fun d w' => d.getD 11 true = false → T w') _ _ _ _ ?_
  show AnyL P .any #[o0, o1, o2, o3, o4, o5, o6, o7, o8, o9, o10, o11] (NoPanic Q) _ 12 #[false, false, false, false, false, false, false, false, false, false, false, false] a w.drew
  have hSi : ∀ i, i ≠ 11 → ∀ (d : Array Bool) (w' : World), ((d.setIfInBounds i true).getD 11 true = false → T w') ↔ (d.getD 11 true = false → T w') := by
    intro i h4 d w'
    rw [getD_set_ne true h4]
  refine AnyL.take (i := 0) (t := 11) (oi := o0) (ot := o11) (T := T) rfl rfl (by decide) hs f0 r0 e0 (fun _ _ _ h => h) (fun d w' h9 hd => h9 hd) (hSi 0 (by decide)) hy0 rfl (fun _ => z0 _ i0) ?_
  refine AnyL.take (i := 1) (t := 11) (oi := o1) (ot := o11) (T := T) rfl rfl (by decide) hs f1 r1 e1 (fun _ _ _ h => h) (fun d w' h9 hd => h9 hd) (hSi 1 (by decide)) hy1 rfl (fun _ => z0 _ i0) ?_
  refine AnyL.take (i := 2) (t := 11) (oi := o2) (ot := o11) (T := T) rfl rfl (by decide) hs f2 r2 e2 (fun _ _ _ h => h) (fun d w' h9 hd => h9 hd) (hSi 2 (by decide)) hy2 rfl (fun _ => z0 _ i0) ?_
  refine AnyL.take (i := 3) (t := 11) (oi := o3) (ot := o11) (T := T) rfl rfl (by decide) hs f3 r3 e3 (fun _ _ _ h => h) (fun d w' h9 hd => h9 hd) (hSi 3 (by decide)) hy3 rfl (fun _ => z0 _ i0) ?_
  refine AnyL.take (i := 4) (t := 11) (oi := o4) (ot := o11) (T := T) rfl rfl (by decide) hs f4 r4 e4 (fun _ _ _ h => h) (fun d w' h9 hd => h9 hd) (hSi 4 (by decide)) hy4 rfl (fun _ => z0 _ i0) ?_
  refine AnyL.take (i := 5) (t := 11) (oi := o5) (ot := o11) (T := T) rfl rfl (by decide) hs f5 r5 e5 (fun _ _ _ h => h) (fun d w' h9 hd => h9 hd) (hSi 5 (by decide)) hy5 rfl (fun _ => z0 _ i0) ?_
  refine AnyL.take (i := 6) (t := 11) (oi := o6) (ot := o11) (T := T) rfl rfl (by decide) hs f6 r6 e6 (fun _ _ _ h => h) (fun d w' h9 hd => h9 hd) (hSi 6 (by decide)) hy6 rfl (fun _ => z0 _ i0) ?_
  refine AnyL.forced q7 rfl g7 (fun K hK => s0  w.drew i0 K (fun u0 w1 i1 => hK _ _ (fun _ => z1 u0 w1 i1) ?_))
  refine AnyL.forced q8 rfl g8 (fun K hK => s1 u0 w1 i1 K (fun u1 w2 i2 => hK _ _ (fun _ => z2 u0 u1 w2 i2) ?_))
  refine AnyL.forced q9 rfl g9 (fun K hK => s2 u0 u1 w2 i2 K (fun u2 w3 i3 => hK _ _ (fun _ => z3 u0 u1 u2 w3 i3) ?_))
  refine AnyL.forced q10 rfl g10 (fun K hK => s3 u0 u1 u2 w3 i3 K (fun u3 w4 i4 => hK _ _ (fun _ => z4 u0 u1 u2 u3 w4 i4) ?_))
  refine AnyL.forced q11 rfl g11 (fun K hK => se u0 u1 u2 u3 w4 i4 K (fun we ie => hK _ _ (fun h9 => (by cases h9)) ?_))
  exact ⟨rr, NoPanic.normal (h u0 u1 u2 u3 we ie)⟩

end
end Go.Proofs.YtajfaekfhohbmaaDoor
/-
  Laws for drawn regions, by genreg.py. No program.
-/
namespace Go.Proofs.YtajfaekfhohbmaaDoor
open Go Go.RowKit Go.BigFrame
set_option linter.unusedVariables false
set_option linter.unusedSimpArgs false
section
variable {P : Program} {Q : Exit → Act → World → Prop}
theorem wp_pu19 {id : Nat} {o0 o1 o2 o3 o4 o5 o6 o7 o8 o9 o10 o11 o12 o13 o14 o15 o16 o17 o18 : Oper} {a : Act} {w : World} (hm : P.follows .mixedOrders = true) (hs : Region.noSelect #[o0, o1, o2, o3, o4, o5, o6, o7, o8, o9, o10, o11, o12, o13, o14, o15, o16, o17, o18] = true)
    (f0 : Region.free .any #[o0, o1, o2, o3, o4, o5, o6, o7, o8, o9, o10, o11, o12, o13, o14, o15, o16, o17, o18] #[false, false, false, false, false, false, false, false, false, false, false, false, false, false, false, false, false, false, false] 0 = true) (r0 : (Region.ready .any #[o0, o1, o2, o3, o4, o5, o6, o7, o8, o9, o10, o11, o12, o13, o14, o15, o16, o17, o18] #[false, false, false, false, false, false, false, false, false, false, false, false, false, false, false, false, false, false, false]).contains 0 = true)
    (f1 : Region.free .any #[o0, o1, o2, o3, o4, o5, o6, o7, o8, o9, o10, o11, o12, o13, o14, o15, o16, o17, o18] #[true, false, false, false, false, false, false, false, false, false, false, false, false, false, false, false, false, false, false] 1 = true) (r1 : (Region.ready .any #[o0, o1, o2, o3, o4, o5, o6, o7, o8, o9, o10, o11, o12, o13, o14, o15, o16, o17, o18] #[true, false, false, false, false, false, false, false, false, false, false, false, false, false, false, false, false, false, false]).contains 1 = true)
    (f2 : Region.free .any #[o0, o1, o2, o3, o4, o5, o6, o7, o8, o9, o10, o11, o12, o13, o14, o15, o16, o17, o18] #[true, true, false, false, false, false, false, false, false, false, false, false, false, false, false, false, false, false, false] 2 = true) (r2 : (Region.ready .any #[o0, o1, o2, o3, o4, o5, o6, o7, o8, o9, o10, o11, o12, o13, o14, o15, o16, o17, o18] #[true, true, false, false, false, false, false, false, false, false, false, false, false, false, false, false, false, false, false]).contains 2 = true)
    (f3 : Region.free .any #[o0, o1, o2, o3, o4, o5, o6, o7, o8, o9, o10, o11, o12, o13, o14, o15, o16, o17, o18] #[true, true, true, false, false, false, false, false, false, false, false, false, false, false, false, false, false, false, false] 3 = true) (r3 : (Region.ready .any #[o0, o1, o2, o3, o4, o5, o6, o7, o8, o9, o10, o11, o12, o13, o14, o15, o16, o17, o18] #[true, true, true, false, false, false, false, false, false, false, false, false, false, false, false, false, false, false, false]).contains 3 = true)
    (f4 : Region.free .any #[o0, o1, o2, o3, o4, o5, o6, o7, o8, o9, o10, o11, o12, o13, o14, o15, o16, o17, o18] #[true, true, true, true, false, false, false, false, false, false, false, false, false, false, false, false, false, false, false] 4 = true) (r4 : (Region.ready .any #[o0, o1, o2, o3, o4, o5, o6, o7, o8, o9, o10, o11, o12, o13, o14, o15, o16, o17, o18] #[true, true, true, true, false, false, false, false, false, false, false, false, false, false, false, false, false, false, false]).contains 4 = true)
    (f5 : Region.free .any #[o0, o1, o2, o3, o4, o5, o6, o7, o8, o9, o10, o11, o12, o13, o14, o15, o16, o17, o18] #[true, true, true, true, true, false, false, false, false, false, false, false, false, false, false, false, false, false, false] 5 = true) (r5 : (Region.ready .any #[o0, o1, o2, o3, o4, o5, o6, o7, o8, o9, o10, o11, o12, o13, o14, o15, o16, o17, o18] #[true, true, true, true, true, false, false, false, false, false, false, false, false, false, false, false, false, false, false]).contains 5 = true)
    (f6 : Region.free .any #[o0, o1, o2, o3, o4, o5, o6, o7, o8, o9, o10, o11, o12, o13, o14, o15, o16, o17, o18] #[true, true, true, true, true, true, false, false, false, false, false, false, false, false, false, false, false, false, false] 6 = true) (r6 : (Region.ready .any #[o0, o1, o2, o3, o4, o5, o6, o7, o8, o9, o10, o11, o12, o13, o14, o15, o16, o17, o18] #[true, true, true, true, true, true, false, false, false, false, false, false, false, false, false, false, false, false, false]).contains 6 = true)
    (f7 : Region.free .any #[o0, o1, o2, o3, o4, o5, o6, o7, o8, o9, o10, o11, o12, o13, o14, o15, o16, o17, o18] #[true, true, true, true, true, true, true, false, false, false, false, false, false, false, false, false, false, false, false] 7 = true) (r7 : (Region.ready .any #[o0, o1, o2, o3, o4, o5, o6, o7, o8, o9, o10, o11, o12, o13, o14, o15, o16, o17, o18] #[true, true, true, true, true, true, true, false, false, false, false, false, false, false, false, false, false, false, false]).contains 7 = true)
    (f8 : Region.free .any #[o0, o1, o2, o3, o4, o5, o6, o7, o8, o9, o10, o11, o12, o13, o14, o15, o16, o17, o18] #[true, true, true, true, true, true, true, true, false, false, false, false, false, false, false, false, false, false, false] 8 = true) (r8 : (Region.ready .any #[o0, o1, o2, o3, o4, o5, o6, o7, o8, o9, o10, o11, o12, o13, o14, o15, o16, o17, o18] #[true, true, true, true, true, true, true, true, false, false, false, false, false, false, false, false, false, false, false]).contains 8 = true)
    (f9 : Region.free .any #[o0, o1, o2, o3, o4, o5, o6, o7, o8, o9, o10, o11, o12, o13, o14, o15, o16, o17, o18] #[true, true, true, true, true, true, true, true, true, false, false, false, false, false, false, false, false, false, false] 9 = true) (r9 : (Region.ready .any #[o0, o1, o2, o3, o4, o5, o6, o7, o8, o9, o10, o11, o12, o13, o14, o15, o16, o17, o18] #[true, true, true, true, true, true, true, true, true, false, false, false, false, false, false, false, false, false, false]).contains 9 = true)
    (f10 : Region.free .any #[o0, o1, o2, o3, o4, o5, o6, o7, o8, o9, o10, o11, o12, o13, o14, o15, o16, o17, o18] #[true, true, true, true, true, true, true, true, true, true, false, false, false, false, false, false, false, false, false] 10 = true) (r10 : (Region.ready .any #[o0, o1, o2, o3, o4, o5, o6, o7, o8, o9, o10, o11, o12, o13, o14, o15, o16, o17, o18] #[true, true, true, true, true, true, true, true, true, true, false, false, false, false, false, false, false, false, false]).contains 10 = true)
    (f11 : Region.free .any #[o0, o1, o2, o3, o4, o5, o6, o7, o8, o9, o10, o11, o12, o13, o14, o15, o16, o17, o18] #[true, true, true, true, true, true, true, true, true, true, true, false, false, false, false, false, false, false, false] 11 = true) (r11 : (Region.ready .any #[o0, o1, o2, o3, o4, o5, o6, o7, o8, o9, o10, o11, o12, o13, o14, o15, o16, o17, o18] #[true, true, true, true, true, true, true, true, true, true, true, false, false, false, false, false, false, false, false]).contains 11 = true)
    (f12 : Region.free .any #[o0, o1, o2, o3, o4, o5, o6, o7, o8, o9, o10, o11, o12, o13, o14, o15, o16, o17, o18] #[true, true, true, true, true, true, true, true, true, true, true, true, false, false, false, false, false, false, false] 12 = true) (r12 : (Region.ready .any #[o0, o1, o2, o3, o4, o5, o6, o7, o8, o9, o10, o11, o12, o13, o14, o15, o16, o17, o18] #[true, true, true, true, true, true, true, true, true, true, true, true, false, false, false, false, false, false, false]).contains 12 = true)
    (f13 : Region.free .any #[o0, o1, o2, o3, o4, o5, o6, o7, o8, o9, o10, o11, o12, o13, o14, o15, o16, o17, o18] #[true, true, true, true, true, true, true, true, true, true, true, true, true, false, false, false, false, false, false] 13 = true) (r13 : (Region.ready .any #[o0, o1, o2, o3, o4, o5, o6, o7, o8, o9, o10, o11, o12, o13, o14, o15, o16, o17, o18] #[true, true, true, true, true, true, true, true, true, true, true, true, true, false, false, false, false, false, false]).contains 13 = true)
    (f14 : Region.free .any #[o0, o1, o2, o3, o4, o5, o6, o7, o8, o9, o10, o11, o12, o13, o14, o15, o16, o17, o18] #[true, true, true, true, true, true, true, true, true, true, true, true, true, true, false, false, false, false, false] 14 = true) (r14 : (Region.ready .any #[o0, o1, o2, o3, o4, o5, o6, o7, o8, o9, o10, o11, o12, o13, o14, o15, o16, o17, o18] #[true, true, true, true, true, true, true, true, true, true, true, true, true, true, false, false, false, false, false]).contains 14 = true)
    (q_ : Region.ready .any #[o0, o1, o2, o3, o4, o5, o6, o7, o8, o9, o10, o11, o12, o13, o14, o15, o16, o17, o18] #[true, true, true, true, true, true, true, true, true, true, true, true, true, true, true, false, false, false, false] = [15, 16])
    (q15_ : Region.ready .any #[o0, o1, o2, o3, o4, o5, o6, o7, o8, o9, o10, o11, o12, o13, o14, o15, o16, o17, o18] #[true, true, true, true, true, true, true, true, true, true, true, true, true, true, true, true, false, false, false] = [16])
    (q16_ : Region.ready .any #[o0, o1, o2, o3, o4, o5, o6, o7, o8, o9, o10, o11, o12, o13, o14, o15, o16, o17, o18] #[true, true, true, true, true, true, true, true, true, true, true, true, true, true, true, false, true, false, false] = [15])
    (q15_16_ : Region.ready .any #[o0, o1, o2, o3, o4, o5, o6, o7, o8, o9, o10, o11, o12, o13, o14, o15, o16, o17, o18] #[true, true, true, true, true, true, true, true, true, true, true, true, true, true, true, true, true, false, false] = [17])
    (q15_16_17_ : Region.ready .any #[o0, o1, o2, o3, o4, o5, o6, o7, o8, o9, o10, o11, o12, o13, o14, o15, o16, o17, o18] #[true, true, true, true, true, true, true, true, true, true, true, true, true, true, true, true, true, true, false] = [18])
    (q15_16_17_18_ : Region.ready .any #[o0, o1, o2, o3, o4, o5, o6, o7, o8, o9, o10, o11, o12, o13, o14, o15, o16, o17, o18] #[true, true, true, true, true, true, true, true, true, true, true, true, true, true, true, true, true, true, true] = [])
    (g15 : o15.guard = none)    (g16 : o16.guard = none)    (g17 : o17.guard = none)    (g18 : o18.guard = none)
    (ne16_15 : ∀ d, o16.dst = some d → o15.dst ≠ some d)
    (v0 v1 v2 v3 v4 v5 v6 v7 v8 v9 v10 v11 v12 v13 v14 : Value) (A0 A1 A2 A3 A4 A5 A6 A7 A8 A9 A10 A11 A12 A13 A14 : Act)
    (S : World → Prop)
    (I_ : World → Prop)
    (I15_ : Value → World → Prop)
    (I16_ : Value → World → Prop)
    (I15_16_ : Value → Value → World → Prop)
    (I15_16_17_ : Value → Value → Value → World → Prop)
    (I15_16_17_18_ : Value → Value → Value → Value → World → Prop)
    (p0 : a.put o0.dst v0 = A0) (hy0 : YieldsIf P #[o0, o1, o2, o3, o4, o5, o6, o7, o8, o9, o10, o11, o12, o13, o14, o15, o16, o17, o18] S o0 v0 a)
    (p1 : A0.put o1.dst v1 = A1) (hy1 : YieldsIf P #[o0, o1, o2, o3, o4, o5, o6, o7, o8, o9, o10, o11, o12, o13, o14, o15, o16, o17, o18] S o1 v1 A0)
    (p2 : A1.put o2.dst v2 = A2) (hy2 : YieldsIf P #[o0, o1, o2, o3, o4, o5, o6, o7, o8, o9, o10, o11, o12, o13, o14, o15, o16, o17, o18] S o2 v2 A1)
    (p3 : A2.put o3.dst v3 = A3) (hy3 : YieldsIf P #[o0, o1, o2, o3, o4, o5, o6, o7, o8, o9, o10, o11, o12, o13, o14, o15, o16, o17, o18] S o3 v3 A2)
    (p4 : A3.put o4.dst v4 = A4) (hy4 : YieldsIf P #[o0, o1, o2, o3, o4, o5, o6, o7, o8, o9, o10, o11, o12, o13, o14, o15, o16, o17, o18] S o4 v4 A3)
    (p5 : A4.put o5.dst v5 = A5) (hy5 : YieldsIf P #[o0, o1, o2, o3, o4, o5, o6, o7, o8, o9, o10, o11, o12, o13, o14, o15, o16, o17, o18] S o5 v5 A4)
    (p6 : A5.put o6.dst v6 = A6) (hy6 : YieldsIf P #[o0, o1, o2, o3, o4, o5, o6, o7, o8, o9, o10, o11, o12, o13, o14, o15, o16, o17, o18] S o6 v6 A5)
    (p7 : A6.put o7.dst v7 = A7) (hy7 : YieldsIf P #[o0, o1, o2, o3, o4, o5, o6, o7, o8, o9, o10, o11, o12, o13, o14, o15, o16, o17, o18] S o7 v7 A6)
    (p8 : A7.put o8.dst v8 = A8) (hy8 : YieldsIf P #[o0, o1, o2, o3, o4, o5, o6, o7, o8, o9, o10, o11, o12, o13, o14, o15, o16, o17, o18] S o8 v8 A7)
    (p9 : A8.put o9.dst v9 = A9) (hy9 : YieldsIf P #[o0, o1, o2, o3, o4, o5, o6, o7, o8, o9, o10, o11, o12, o13, o14, o15, o16, o17, o18] S o9 v9 A8)
    (p10 : A9.put o10.dst v10 = A10) (hy10 : YieldsIf P #[o0, o1, o2, o3, o4, o5, o6, o7, o8, o9, o10, o11, o12, o13, o14, o15, o16, o17, o18] S o10 v10 A9)
    (p11 : A10.put o11.dst v11 = A11) (hy11 : YieldsIf P #[o0, o1, o2, o3, o4, o5, o6, o7, o8, o9, o10, o11, o12, o13, o14, o15, o16, o17, o18] S o11 v11 A10)
    (p12 : A11.put o12.dst v12 = A12) (hy12 : YieldsIf P #[o0, o1, o2, o3, o4, o5, o6, o7, o8, o9, o10, o11, o12, o13, o14, o15, o16, o17, o18] S o12 v12 A11)
    (p13 : A12.put o13.dst v13 = A13) (hy13 : YieldsIf P #[o0, o1, o2, o3, o4, o5, o6, o7, o8, o9, o10, o11, o12, o13, o14, o15, o16, o17, o18] S o13 v13 A12)
    (p14 : A13.put o14.dst v14 = A14) (hy14 : YieldsIf P #[o0, o1, o2, o3, o4, o5, o6, o7, o8, o9, o10, o11, o12, o13, o14, o15, o16, o17, o18] S o14 v14 A13)
    (i0 : I_ w.drew)
    (hIS : (∀ w', I_  w' → S w') ∧ (∀ (u15 : Value) w', I15_ u15 w' → S w') ∧ (∀ (u16 : Value) w', I16_ u16 w' → S w') ∧ (∀ (u15 u16 : Value) w', I15_16_ u15 u16 w' → S w') ∧ (∀ (u15 u16 u17 : Value) w', I15_16_17_ u15 u16 u17 w' → S w') ∧ (∀ (u15 u16 u17 u18 : Value) w', I15_16_17_18_ u15 u16 u17 u18 w' → S w'))
    (s_15 : ∀ w', I_  w' → ∀ K : Act → World → Prop, (∀ (u15 : Value) w2, I15_ u15 w2 → K (A14.put o15.dst u15) w2) → o15.wp P A14 w' K (NoPanic Q))
    (s_16 : ∀ w', I_  w' → ∀ K : Act → World → Prop, (∀ (u16 : Value) w2, I16_ u16 w2 → K (A14.put o16.dst u16) w2) → o16.wp P A14 w' K (NoPanic Q))
    (s15_16 : ∀ (u15 : Value) w', I15_ u15 w' → ∀ K : Act → World → Prop, (∀ (u16 : Value) w2, I15_16_ u15 u16 w2 → K ((A14.put o15.dst u15).put o16.dst u16) w2) → o16.wp P (A14.put o15.dst u15) w' K (NoPanic Q))
    (s16_15 : ∀ (u16 : Value) w', I16_ u16 w' → ∀ K : Act → World → Prop, (∀ (u15 : Value) w2, I15_16_ u15 u16 w2 → K ((A14.put o16.dst u16).put o15.dst u15) w2) → o15.wp P (A14.put o16.dst u16) w' K (NoPanic Q))
    (s15_16_17 : ∀ (u15 u16 : Value) w', I15_16_ u15 u16 w' → ∀ K : Act → World → Prop, (∀ (u17 : Value) w2, I15_16_17_ u15 u16 u17 w2 → K (((A14.put o15.dst u15).put o16.dst u16).put o17.dst u17) w2) → o17.wp P ((A14.put o15.dst u15).put o16.dst u16) w' K (NoPanic Q))
    (s15_16_17_18 : ∀ (u15 u16 u17 : Value) w', I15_16_17_ u15 u16 u17 w' → ∀ K : Act → World → Prop, (∀ (u18 : Value) w2, I15_16_17_18_ u15 u16 u17 u18 w2 → K ((((A14.put o15.dst u15).put o16.dst u16).put o17.dst u17).put o18.dst u18) w2) → o18.wp P (((A14.put o15.dst u15).put o16.dst u16).put o17.dst u17) w' K (NoPanic Q))
    (h : ∀ (u15 u16 u17 u18 : Value) w', I15_16_17_18_ u15 u16 u17 u18 w' → Q .normal ((((A14.put o15.dst u15).put o16.dst u16).put o17.dst u17).put o18.dst u18) w') :
    (Code.region id #[o0, o1, o2, o3, o4, o5, o6, o7, o8, o9, o10, o11, o12, o13, o14, o15, o16, o17, o18] true).wp P Q a w := by
  subst p0 p1 p2 p3 p4 p5 p6 p7 p8 p9 p10 p11 p12 p13 p14
  obtain ⟨z_, z15_, z16_, z15_16_, z15_16_17_, z15_16_17_18_⟩ := hIS
  refine wp_region_noPanic ?_
  refine wp_region_held_drew (S := S) hm (z_ _ i0) (fun hH => ?_)
  show wpAnyH P .any #[o0, o1, o2, o3, o4, o5, o6, o7, o8, o9, o10, o11, o12, o13, o14, o15, o16, o17, o18] (NoPanic Q) S 19 #[false, false, false, false, false, false, false, false, false, false, false, false, false, false, false, false, false, false, false] a w.drew
  refine wpAnyH_take (i := 0) (oi := o0) rfl hs f0 r0 (fun _ _ _ h => h) hy0 hH ?_
  refine wpAnyH_take (i := 1) (oi := o1) rfl hs f1 r1 (fun _ _ _ h => h) hy1 hH ?_
  refine wpAnyH_take (i := 2) (oi := o2) rfl hs f2 r2 (fun _ _ _ h => h) hy2 hH ?_
  refine wpAnyH_take (i := 3) (oi := o3) rfl hs f3 r3 (fun _ _ _ h => h) hy3 hH ?_
  refine wpAnyH_take (i := 4) (oi := o4) rfl hs f4 r4 (fun _ _ _ h => h) hy4 hH ?_
  refine wpAnyH_take (i := 5) (oi := o5) rfl hs f5 r5 (fun _ _ _ h => h) hy5 hH ?_
  refine wpAnyH_take (i := 6) (oi := o6) rfl hs f6 r6 (fun _ _ _ h => h) hy6 hH ?_
  refine wpAnyH_take (i := 7) (oi := o7) rfl hs f7 r7 (fun _ _ _ h => h) hy7 hH ?_
  refine wpAnyH_take (i := 8) (oi := o8) rfl hs f8 r8 (fun _ _ _ h => h) hy8 hH ?_
  refine wpAnyH_take (i := 9) (oi := o9) rfl hs f9 r9 (fun _ _ _ h => h) hy9 hH ?_
  refine wpAnyH_take (i := 10) (oi := o10) rfl hs f10 r10 (fun _ _ _ h => h) hy10 hH ?_
  refine wpAnyH_take (i := 11) (oi := o11) rfl hs f11 r11 (fun _ _ _ h => h) hy11 hH ?_
  refine wpAnyH_take (i := 12) (oi := o12) rfl hs f12 r12 (fun _ _ _ h => h) hy12 hH ?_
  refine wpAnyH_take (i := 13) (oi := o13) rfl hs f13 r13 (fun _ _ _ h => h) hy13 hH ?_
  refine wpAnyH_take (i := 14) (oi := o14) rfl hs f14 r14 (fun _ _ _ h => h) hy14 hH ?_
  generalize (((((((((((((((a.put o0.dst v0).put o1.dst v1).put o2.dst v2).put o3.dst v3).put o4.dst v4).put o5.dst v5).put o6.dst v6).put o7.dst v7).put o8.dst v8).put o9.dst v9).put o10.dst v10).put o11.dst v11).put o12.dst v12).put o13.dst v13).put o14.dst v14) = B at *
  have wa15 : ∀ y, Region.wanted o15 y = true := fun y => by unfold Region.wanted; rw [g15]
  have wa16 : ∀ y, Region.wanted o16 y = true := fun y => by unfold Region.wanted; rw [g16]
  have wa17 : ∀ y, Region.wanted o17 y = true := fun y => by unfold Region.wanted; rw [g17]
  have wa18 : ∀ y, Region.wanted o18 y = true := fun y => by unfold Region.wanted; rw [g18]
  have t15_16_17_18_ : ∀ (u15 u16 u17 u18 : Value) w', I15_16_17_18_ u15 u16 u17 u18 w' → wpAnyH P .any #[o0, o1, o2, o3, o4, o5, o6, o7, o8, o9, o10, o11, o12, o13, o14, o15, o16, o17, o18] (NoPanic Q) S 0 #[true, true, true, true, true, true, true, true, true, true, true, true, true, true, true, true, true, true, true] ((((B.put o15.dst u15).put o16.dst u16).put o17.dst u17).put o18.dst u18) w' := by
    intro u15 u16 u17 u18 w0 i0
    exact ⟨q15_16_17_18_, NoPanic.normal (h u15 u16 u17 u18 w0 i0)⟩
  have t15_16_17_ : ∀ (u15 u16 u17 : Value) w', I15_16_17_ u15 u16 u17 w' → wpAnyH P .any #[o0, o1, o2, o3, o4, o5, o6, o7, o8, o9, o10, o11, o12, o13, o14, o15, o16, o17, o18] (NoPanic Q) S 1 #[true, true, true, true, true, true, true, true, true, true, true, true, true, true, true, true, true, true, false] (((B.put o15.dst u15).put o16.dst u16).put o17.dst u17) w' := by
    intro u15 u16 u17 w0 i0
    refine wpAnyH_ready (rs := [18]) q15_16_17_ (by simp) (AllReadyH.cons (o := o18) rfl (fun K hK => ?_) AllReadyH.nil)
    · rw [if_pos (wa18 _)]
      refine s15_16_17_18 u15 u16 u17 w0 i0 K (fun u18 w1 i1 => hK.out _ _ (z15_16_17_18_ u15 u16 u17 u18 w1 i1) (fun _ => ?_))
      clear hK
      exact t15_16_17_18_ u15 u16 u17 u18 w1 i1
  have t15_16_ : ∀ (u15 u16 : Value) w', I15_16_ u15 u16 w' → wpAnyH P .any #[o0, o1, o2, o3, o4, o5, o6, o7, o8, o9, o10, o11, o12, o13, o14, o15, o16, o17, o18] (NoPanic Q) S 2 #[true, true, true, true, true, true, true, true, true, true, true, true, true, true, true, true, true, false, false] ((B.put o15.dst u15).put o16.dst u16) w' := by
    intro u15 u16 w0 i0
    refine wpAnyH_ready (rs := [17]) q15_16_ (by simp) (AllReadyH.cons (o := o17) rfl (fun K hK => ?_) AllReadyH.nil)
    · rw [if_pos (wa17 _)]
      refine s15_16_17 u15 u16 w0 i0 K (fun u17 w1 i1 => hK.out _ _ (z15_16_17_ u15 u16 u17 w1 i1) (fun _ => ?_))
      clear hK
      exact t15_16_17_ u15 u16 u17 w1 i1
  have t16_ : ∀ (u16 : Value) w', I16_ u16 w' → wpAnyH P .any #[o0, o1, o2, o3, o4, o5, o6, o7, o8, o9, o10, o11, o12, o13, o14, o15, o16, o17, o18] (NoPanic Q) S 3 #[true, true, true, true, true, true, true, true, true, true, true, true, true, true, true, false, true, false, false] (B.put o16.dst u16) w' := by
    intro u16 w0 i0
    refine wpAnyH_ready (rs := [15]) q16_ (by simp) (AllReadyH.cons (o := o15) rfl (fun K hK => ?_) AllReadyH.nil)
    · rw [if_pos (wa15 _)]
      refine s16_15 u16 w0 i0 K (fun u15 w1 i1 => hK.out _ _ (z15_16_ u15 u16 w1 i1) (fun _ => ?_))
      clear hK
      rw [Act.put_comm _ _ _ ne16_15]
      exact t15_16_ u15 u16 w1 i1
  have t15_ : ∀ (u15 : Value) w', I15_ u15 w' → wpAnyH P .any #[o0, o1, o2, o3, o4, o5, o6, o7, o8, o9, o10, o11, o12, o13, o14, o15, o16, o17, o18] (NoPanic Q) S 3 #[true, true, true, true, true, true, true, true, true, true, true, true, true, true, true, true, false, false, false] (B.put o15.dst u15) w' := by
    intro u15 w0 i0
    refine wpAnyH_ready (rs := [16]) q15_ (by simp) (AllReadyH.cons (o := o16) rfl (fun K hK => ?_) AllReadyH.nil)
    · rw [if_pos (wa16 _)]
      refine s15_16 u15 w0 i0 K (fun u16 w1 i1 => hK.out _ _ (z15_16_ u15 u16 w1 i1) (fun _ => ?_))
      clear hK
      exact t15_16_ u15 u16 w1 i1
  have t_ : ∀ w', I_  w' → wpAnyH P .any #[o0, o1, o2, o3, o4, o5, o6, o7, o8, o9, o10, o11, o12, o13, o14, o15, o16, o17, o18] (NoPanic Q) S 4 #[true, true, true, true, true, true, true, true, true, true, true, true, true, true, true, false, false, false, false] B w' := by
    intro w0 i0
    refine wpAnyH_ready (rs := [15, 16]) q_ (by simp) (AllReadyH.cons (o := o15) rfl (fun K hK => ?_) (AllReadyH.cons (o := o16) rfl (fun K hK => ?_) AllReadyH.nil))
    · rw [if_pos (wa15 _)]
      refine s_15  w0 i0 K (fun u15 w1 i1 => hK.out _ _ (z15_ u15 w1 i1) (fun _ => ?_))
      clear hK
      exact t15_ u15 w1 i1
    · rw [if_pos (wa16 _)]
      refine s_16  w0 i0 K (fun u16 w1 i1 => hK.out _ _ (z16_ u16 w1 i1) (fun _ => ?_))
      clear hK
      exact t16_ u16 w1 i1
  exact t_ w.drew i0

end
end Go.Proofs.YtajfaekfhohbmaaDoor
/-
  Laws for drawn regions with two effects in either order and a late store, by genchain2.py. No program.
-/
namespace Go.Proofs.YtajfaekfhohbmaaDoor
open Go Go.RowKit Go.BigFrame
set_option linter.unusedVariables false
set_option linter.unusedSimpArgs false
section
variable {P : Program} {ops : Array Oper} {Q : Exit → Act → World → Prop} {md : Region.Mode} {S : Array Bool → World → Prop}
theorem AnyL.two {i j : Nat} {oi oj : Oper} {g : Nat} {d : Array Bool} {a : Act} {w : World} (hr : Region.ready md ops d = [i, j]) (hoi : ops[i]? = some oi) (hoj : ops[j]? = some oj) (hgi : oi.guard = none) (hgj : oj.guard = none)
    (h : ∀ K : Act → World → Prop, (∀ a' w', S (d.setIfInBounds i true) w' → AnyL P md ops Q S g (d.setIfInBounds i true) a' w' → K a' w') → oi.wp P a w K Q)
    (h' : ∀ K : Act → World → Prop, (∀ a' w', S (d.setIfInBounds j true) w' → AnyL P md ops Q S g (d.setIfInBounds j true) a' w' → K a' w') → oj.wp P a w K Q) : AnyL P md ops Q S (g + 1) d a w := by
  refine ⟨fun h0 => (by rw [hr] at h0; cases h0), fun k hk => ?_⟩
  rw [hr] at hk
  simp only [List.mem_cons, List.not_mem_nil, or_false] at hk
  rcases hk with rfl | rfl
  · refine wpOp_step hoi (fun K' hK => ?_)
    rw [if_pos (by unfold Region.wanted; rw [hgi])]
    exact h K' (fun a' w' h1 h2 => hK a' w' ⟨h1, h2⟩)
  · refine wpOp_step hoj (fun K' hK => ?_)
    rw [if_pos (by unfold Region.wanted; rw [hgj])]
    exact h' K' (fun a' w' h1 h2 => hK a' w' ⟨h1, h2⟩)
end
section
variable {P : Program} {Q : Exit → Act → World → Prop}
theorem wp_pu26 {id : Nat} {o0 o1 o2 o3 o4 o5 o6 o7 o8 o9 o10 o11 o12 o13 o14 o15 o16 o17 o18 o19 o20 o21 o22 o23 o24 o25 : Oper} {a : Act} {w : World} (hm : P.follows .mixedOrders = true) (hs : Region.noSelect #[o0, o1, o2, o3, o4, o5, o6, o7, o8, o9, o10, o11, o12, o13, o14, o15, o16, o17, o18, o19, o20, o21, o22, o23, o24, o25] = true)
    (f0 : Region.free .any #[o0, o1, o2, o3, o4, o5, o6, o7, o8, o9, o10, o11, o12, o13, o14, o15, o16, o17, o18, o19, o20, o21, o22, o23, o24, o25] #[false, false, false, false, false, false, false, false, false, false, false, false, false, false, false, false, false, false, false, false, false, false, false, false, false, false] 0 = true) (r0 : (Region.ready .any #[o0, o1, o2, o3, o4, o5, o6, o7, o8, o9, o10, o11, o12, o13, o14, o15, o16, o17, o18, o19, o20, o21, o22, o23, o24, o25] #[false, false, false, false, false, false, false, false, false, false, false, false, false, false, false, false, false, false, false, false, false, false, false, false, false, false]).contains 0 = true) (e0 : o25.after.any (fun e => Region.binds .any e && e.on == 0) = true)
    (f1 : Region.free .any #[o0, o1, o2, o3, o4, o5, o6, o7, o8, o9, o10, o11, o12, o13, o14, o15, o16, o17, o18, o19, o20, o21, o22, o23, o24, o25] #[true, false, false, false, false, false, false, false, false, false, false, false, false, false, false, false, false, false, false, false, false, false, false, false, false, false] 1 = true) (r1 : (Region.ready .any #[o0, o1, o2, o3, o4, o5, o6, o7, o8, o9, o10, o11, o12, o13, o14, o15, o16, o17, o18, o19, o20, o21, o22, o23, o24, o25] #[true, false, false, false, false, false, false, false, false, false, false, false, false, false, false, false, false, false, false, false, false, false, false, false, false, false]).contains 1 = true) (e1 : o25.after.any (fun e => Region.binds .any e && e.on == 1) = true)
    (f2 : Region.free .any #[o0, o1, o2, o3, o4, o5, o6, o7, o8, o9, o10, o11, o12, o13, o14, o15, o16, o17, o18, o19, o20, o21, o22, o23, o24, o25] #[true, true, false, false, false, false, false, false, false, false, false, false, false, false, false, false, false, false, false, false, false, false, false, false, false, false] 2 = true) (r2 : (Region.ready .any #[o0, o1, o2, o3, o4, o5, o6, o7, o8, o9, o10, o11, o12, o13, o14, o15, o16, o17, o18, o19, o20, o21, o22, o23, o24, o25] #[true, true, false, false, false, false, false, false, false, false, false, false, false, false, false, false, false, false, false, false, false, false, false, false, false, false]).contains 2 = true) (e2 : o25.after.any (fun e => Region.binds .any e && e.on == 2) = true)
    (f3 : Region.free .any #[o0, o1, o2, o3, o4, o5, o6, o7, o8, o9, o10, o11, o12, o13, o14, o15, o16, o17, o18, o19, o20, o21, o22, o23, o24, o25] #[true, true, true, false, false, false, false, false, false, false, false, false, false, false, false, false, false, false, false, false, false, false, false, false, false, false] 3 = true) (r3 : (Region.ready .any #[o0, o1, o2, o3, o4, o5, o6, o7, o8, o9, o10, o11, o12, o13, o14, o15, o16, o17, o18, o19, o20, o21, o22, o23, o24, o25] #[true, true, true, false, false, false, false, false, false, false, false, false, false, false, false, false, false, false, false, false, false, false, false, false, false, false]).contains 3 = true) (e3 : o25.after.any (fun e => Region.binds .any e && e.on == 3) = true)
    (f4 : Region.free .any #[o0, o1, o2, o3, o4, o5, o6, o7, o8, o9, o10, o11, o12, o13, o14, o15, o16, o17, o18, o19, o20, o21, o22, o23, o24, o25] #[true, true, true, true, false, false, false, false, false, false, false, false, false, false, false, false, false, false, false, false, false, false, false, false, false, false] 4 = true) (r4 : (Region.ready .any #[o0, o1, o2, o3, o4, o5, o6, o7, o8, o9, o10, o11, o12, o13, o14, o15, o16, o17, o18, o19, o20, o21, o22, o23, o24, o25] #[true, true, true, true, false, false, false, false, false, false, false, false, false, false, false, false, false, false, false, false, false, false, false, false, false, false]).contains 4 = true) (e4 : o25.after.any (fun e => Region.binds .any e && e.on == 4) = true)
    (f5 : Region.free .any #[o0, o1, o2, o3, o4, o5, o6, o7, o8, o9, o10, o11, o12, o13, o14, o15, o16, o17, o18, o19, o20, o21, o22, o23, o24, o25] #[true, true, true, true, true, false, false, false, false, false, false, false, false, false, false, false, false, false, false, false, false, false, false, false, false, false] 5 = true) (r5 : (Region.ready .any #[o0, o1, o2, o3, o4, o5, o6, o7, o8, o9, o10, o11, o12, o13, o14, o15, o16, o17, o18, o19, o20, o21, o22, o23, o24, o25] #[true, true, true, true, true, false, false, false, false, false, false, false, false, false, false, false, false, false, false, false, false, false, false, false, false, false]).contains 5 = true) (e5 : o25.after.any (fun e => Region.binds .any e && e.on == 5) = true)
    (f6 : Region.free .any #[o0, o1, o2, o3, o4, o5, o6, o7, o8, o9, o10, o11, o12, o13, o14, o15, o16, o17, o18, o19, o20, o21, o22, o23, o24, o25] #[true, true, true, true, true, true, false, false, false, false, false, false, false, false, false, false, false, false, false, false, false, false, false, false, false, false] 6 = true) (r6 : (Region.ready .any #[o0, o1, o2, o3, o4, o5, o6, o7, o8, o9, o10, o11, o12, o13, o14, o15, o16, o17, o18, o19, o20, o21, o22, o23, o24, o25] #[true, true, true, true, true, true, false, false, false, false, false, false, false, false, false, false, false, false, false, false, false, false, false, false, false, false]).contains 6 = true) (e6 : o25.after.any (fun e => Region.binds .any e && e.on == 6) = true)
    (f7 : Region.free .any #[o0, o1, o2, o3, o4, o5, o6, o7, o8, o9, o10, o11, o12, o13, o14, o15, o16, o17, o18, o19, o20, o21, o22, o23, o24, o25] #[true, true, true, true, true, true, true, false, false, false, false, false, false, false, false, false, false, false, false, false, false, false, false, false, false, false] 7 = true) (r7 : (Region.ready .any #[o0, o1, o2, o3, o4, o5, o6, o7, o8, o9, o10, o11, o12, o13, o14, o15, o16, o17, o18, o19, o20, o21, o22, o23, o24, o25] #[true, true, true, true, true, true, true, false, false, false, false, false, false, false, false, false, false, false, false, false, false, false, false, false, false, false]).contains 7 = true) (e7 : o25.after.any (fun e => Region.binds .any e && e.on == 7) = true)
    (f8 : Region.free .any #[o0, o1, o2, o3, o4, o5, o6, o7, o8, o9, o10, o11, o12, o13, o14, o15, o16, o17, o18, o19, o20, o21, o22, o23, o24, o25] #[true, true, true, true, true, true, true, true, false, false, false, false, false, false, false, false, false, false, false, false, false, false, false, false, false, false] 8 = true) (r8 : (Region.ready .any #[o0, o1, o2, o3, o4, o5, o6, o7, o8, o9, o10, o11, o12, o13, o14, o15, o16, o17, o18, o19, o20, o21, o22, o23, o24, o25] #[true, true, true, true, true, true, true, true, false, false, false, false, false, false, false, false, false, false, false, false, false, false, false, false, false, false]).contains 8 = true) (e8 : o25.after.any (fun e => Region.binds .any e && e.on == 8) = true)
    (f9 : Region.free .any #[o0, o1, o2, o3, o4, o5, o6, o7, o8, o9, o10, o11, o12, o13, o14, o15, o16, o17, o18, o19, o20, o21, o22, o23, o24, o25] #[true, true, true, true, true, true, true, true, true, false, false, false, false, false, false, false, false, false, false, false, false, false, false, false, false, false] 9 = true) (r9 : (Region.ready .any #[o0, o1, o2, o3, o4, o5, o6, o7, o8, o9, o10, o11, o12, o13, o14, o15, o16, o17, o18, o19, o20, o21, o22, o23, o24, o25] #[true, true, true, true, true, true, true, true, true, false, false, false, false, false, false, false, false, false, false, false, false, false, false, false, false, false]).contains 9 = true) (e9 : o25.after.any (fun e => Region.binds .any e && e.on == 9) = true)
    (f10 : Region.free .any #[o0, o1, o2, o3, o4, o5, o6, o7, o8, o9, o10, o11, o12, o13, o14, o15, o16, o17, o18, o19, o20, o21, o22, o23, o24, o25] #[true, true, true, true, true, true, true, true, true, true, false, false, false, false, false, false, false, false, false, false, false, false, false, false, false, false] 10 = true) (r10 : (Region.ready .any #[o0, o1, o2, o3, o4, o5, o6, o7, o8, o9, o10, o11, o12, o13, o14, o15, o16, o17, o18, o19, o20, o21, o22, o23, o24, o25] #[true, true, true, true, true, true, true, true, true, true, false, false, false, false, false, false, false, false, false, false, false, false, false, false, false, false]).contains 10 = true) (e10 : o25.after.any (fun e => Region.binds .any e && e.on == 10) = true)
    (f11 : Region.free .any #[o0, o1, o2, o3, o4, o5, o6, o7, o8, o9, o10, o11, o12, o13, o14, o15, o16, o17, o18, o19, o20, o21, o22, o23, o24, o25] #[true, true, true, true, true, true, true, true, true, true, true, false, false, false, false, false, false, false, false, false, false, false, false, false, false, false] 11 = true) (r11 : (Region.ready .any #[o0, o1, o2, o3, o4, o5, o6, o7, o8, o9, o10, o11, o12, o13, o14, o15, o16, o17, o18, o19, o20, o21, o22, o23, o24, o25] #[true, true, true, true, true, true, true, true, true, true, true, false, false, false, false, false, false, false, false, false, false, false, false, false, false, false]).contains 11 = true) (e11 : o25.after.any (fun e => Region.binds .any e && e.on == 11) = true)
    (f12 : Region.free .any #[o0, o1, o2, o3, o4, o5, o6, o7, o8, o9, o10, o11, o12, o13, o14, o15, o16, o17, o18, o19, o20, o21, o22, o23, o24, o25] #[true, true, true, true, true, true, true, true, true, true, true, true, false, false, false, false, false, false, false, false, false, false, false, false, false, false] 12 = true) (r12 : (Region.ready .any #[o0, o1, o2, o3, o4, o5, o6, o7, o8, o9, o10, o11, o12, o13, o14, o15, o16, o17, o18, o19, o20, o21, o22, o23, o24, o25] #[true, true, true, true, true, true, true, true, true, true, true, true, false, false, false, false, false, false, false, false, false, false, false, false, false, false]).contains 12 = true) (e12 : o25.after.any (fun e => Region.binds .any e && e.on == 12) = true)
    (f13 : Region.free .any #[o0, o1, o2, o3, o4, o5, o6, o7, o8, o9, o10, o11, o12, o13, o14, o15, o16, o17, o18, o19, o20, o21, o22, o23, o24, o25] #[true, true, true, true, true, true, true, true, true, true, true, true, true, false, false, false, false, false, false, false, false, false, false, false, false, false] 13 = true) (r13 : (Region.ready .any #[o0, o1, o2, o3, o4, o5, o6, o7, o8, o9, o10, o11, o12, o13, o14, o15, o16, o17, o18, o19, o20, o21, o22, o23, o24, o25] #[true, true, true, true, true, true, true, true, true, true, true, true, true, false, false, false, false, false, false, false, false, false, false, false, false, false]).contains 13 = true) (e13 : o25.after.any (fun e => Region.binds .any e && e.on == 13) = true)
    (f14 : Region.free .any #[o0, o1, o2, o3, o4, o5, o6, o7, o8, o9, o10, o11, o12, o13, o14, o15, o16, o17, o18, o19, o20, o21, o22, o23, o24, o25] #[true, true, true, true, true, true, true, true, true, true, true, true, true, true, false, false, false, false, false, false, false, false, false, false, false, false] 14 = true) (r14 : (Region.ready .any #[o0, o1, o2, o3, o4, o5, o6, o7, o8, o9, o10, o11, o12, o13, o14, o15, o16, o17, o18, o19, o20, o21, o22, o23, o24, o25] #[true, true, true, true, true, true, true, true, true, true, true, true, true, true, false, false, false, false, false, false, false, false, false, false, false, false]).contains 14 = true) (e14 : o25.after.any (fun e => Region.binds .any e && e.on == 14) = true)
    (f16 : Region.free .any #[o0, o1, o2, o3, o4, o5, o6, o7, o8, o9, o10, o11, o12, o13, o14, o15, o16, o17, o18, o19, o20, o21, o22, o23, o24, o25] #[true, true, true, true, true, true, true, true, true, true, true, true, true, true, true, false, false, false, false, false, false, false, false, false, false, false] 16 = true) (r16 : (Region.ready .any #[o0, o1, o2, o3, o4, o5, o6, o7, o8, o9, o10, o11, o12, o13, o14, o15, o16, o17, o18, o19, o20, o21, o22, o23, o24, o25] #[true, true, true, true, true, true, true, true, true, true, true, true, true, true, true, false, false, false, false, false, false, false, false, false, false, false]).contains 16 = true) (e16 : o25.after.any (fun e => Region.binds .any e && e.on == 16) = true)
    (f17 : Region.free .any #[o0, o1, o2, o3, o4, o5, o6, o7, o8, o9, o10, o11, o12, o13, o14, o15, o16, o17, o18, o19, o20, o21, o22, o23, o24, o25] #[true, true, true, true, true, true, true, true, true, true, true, true, true, true, true, false, true, false, false, false, false, false, false, false, false, false] 17 = true) (r17 : (Region.ready .any #[o0, o1, o2, o3, o4, o5, o6, o7, o8, o9, o10, o11, o12, o13, o14, o15, o16, o17, o18, o19, o20, o21, o22, o23, o24, o25] #[true, true, true, true, true, true, true, true, true, true, true, true, true, true, true, false, true, false, false, false, false, false, false, false, false, false]).contains 17 = true) (e17 : o25.after.any (fun e => Region.binds .any e && e.on == 17) = true)
    (f18 : Region.free .any #[o0, o1, o2, o3, o4, o5, o6, o7, o8, o9, o10, o11, o12, o13, o14, o15, o16, o17, o18, o19, o20, o21, o22, o23, o24, o25] #[true, true, true, true, true, true, true, true, true, true, true, true, true, true, true, false, true, true, false, false, false, false, false, false, false, false] 18 = true) (r18 : (Region.ready .any #[o0, o1, o2, o3, o4, o5, o6, o7, o8, o9, o10, o11, o12, o13, o14, o15, o16, o17, o18, o19, o20, o21, o22, o23, o24, o25] #[true, true, true, true, true, true, true, true, true, true, true, true, true, true, true, false, true, true, false, false, false, false, false, false, false, false]).contains 18 = true) (e18 : o25.after.any (fun e => Region.binds .any e && e.on == 18) = true)
    (qa : Region.ready .any #[o0, o1, o2, o3, o4, o5, o6, o7, o8, o9, o10, o11, o12, o13, o14, o15, o16, o17, o18, o19, o20, o21, o22, o23, o24, o25] #[true, true, true, true, true, true, true, true, true, true, true, true, true, true, true, false, true, true, true, false, false, false, false, false, false, false] = [15, 19]) (qx : Region.ready .any #[o0, o1, o2, o3, o4, o5, o6, o7, o8, o9, o10, o11, o12, o13, o14, o15, o16, o17, o18, o19, o20, o21, o22, o23, o24, o25] #[true, true, true, true, true, true, true, true, true, true, true, true, true, true, true, true, true, true, true, false, false, false, false, false, false, false] = [19]) (qy : Region.ready .any #[o0, o1, o2, o3, o4, o5, o6, o7, o8, o9, o10, o11, o12, o13, o14, o15, o16, o17, o18, o19, o20, o21, o22, o23, o24, o25] #[true, true, true, true, true, true, true, true, true, true, true, true, true, true, true, false, true, true, true, true, false, false, false, false, false, false] = [15]) (g15 : o15.guard = none) (g19 : o19.guard = none) (nexy : ∀ d, o19.dst = some d → o15.dst ≠ some d)
    (q20 : Region.ready .any #[o0, o1, o2, o3, o4, o5, o6, o7, o8, o9, o10, o11, o12, o13, o14, o15, o16, o17, o18, o19, o20, o21, o22, o23, o24, o25] #[true, true, true, true, true, true, true, true, true, true, true, true, true, true, true, true, true, true, true, true, false, false, false, false, false, false] = [20]) (g20 : o20.guard = none)
    (q21 : Region.ready .any #[o0, o1, o2, o3, o4, o5, o6, o7, o8, o9, o10, o11, o12, o13, o14, o15, o16, o17, o18, o19, o20, o21, o22, o23, o24, o25] #[true, true, true, true, true, true, true, true, true, true, true, true, true, true, true, true, true, true, true, true, true, false, false, false, false, false] = [21]) (g21 : o21.guard = none)
    (q22 : Region.ready .any #[o0, o1, o2, o3, o4, o5, o6, o7, o8, o9, o10, o11, o12, o13, o14, o15, o16, o17, o18, o19, o20, o21, o22, o23, o24, o25] #[true, true, true, true, true, true, true, true, true, true, true, true, true, true, true, true, true, true, true, true, true, true, false, false, false, false] = [22]) (g22 : o22.guard = none)
    (q23 : Region.ready .any #[o0, o1, o2, o3, o4, o5, o6, o7, o8, o9, o10, o11, o12, o13, o14, o15, o16, o17, o18, o19, o20, o21, o22, o23, o24, o25] #[true, true, true, true, true, true, true, true, true, true, true, true, true, true, true, true, true, true, true, true, true, true, true, false, false, false] = [23]) (g23 : o23.guard = none)
    (q24 : Region.ready .any #[o0, o1, o2, o3, o4, o5, o6, o7, o8, o9, o10, o11, o12, o13, o14, o15, o16, o17, o18, o19, o20, o21, o22, o23, o24, o25] #[true, true, true, true, true, true, true, true, true, true, true, true, true, true, true, true, true, true, true, true, true, true, true, true, false, false] = [24]) (g24 : o24.guard = none)
    (q25 : Region.ready .any #[o0, o1, o2, o3, o4, o5, o6, o7, o8, o9, o10, o11, o12, o13, o14, o15, o16, o17, o18, o19, o20, o21, o22, o23, o24, o25] #[true, true, true, true, true, true, true, true, true, true, true, true, true, true, true, true, true, true, true, true, true, true, true, true, true, false] = [25]) (g25 : o25.guard = none)
    (rr : Region.ready .any #[o0, o1, o2, o3, o4, o5, o6, o7, o8, o9, o10, o11, o12, o13, o14, o15, o16, o17, o18, o19, o20, o21, o22, o23, o24, o25] #[true, true, true, true, true, true, true, true, true, true, true, true, true, true, true, true, true, true, true, true, true, true, true, true, true, true] = [])
    (v0 v1 v2 v3 v4 v5 v6 v7 v8 v9 v10 v11 v12 v13 v14 v16 v17 v18 : Value) (A0 A1 A2 A3 A4 A5 A6 A7 A8 A9 A10 A11 A12 A13 A14 A15 A16 A17 : Act) (T : World → Prop)
    (I0 : World → Prop) (IX : Value → World → Prop) (IY : Value → World → Prop)
    (I2 : Value → Value → World → Prop)
    (I3 : Value → Value → Value → World → Prop)
    (I4 : Value → Value → Value → Value → World → Prop)
    (I5 : Value → Value → Value → Value → Value → World → Prop)
    (I6 : Value → Value → Value → Value → Value → Value → World → Prop)
    (I7 : Value → Value → Value → Value → Value → Value → Value → World → Prop)
    (IE : Value → Value → Value → Value → Value → Value → Value → World → Prop)
    (p0 : a.put o0.dst v0 = A0) (hy0 : YieldsIf P #[o0, o1, o2, o3, o4, o5, o6, o7, o8, o9, o10, o11, o12, o13, o14, o15, o16, o17, o18, o19, o20, o21, o22, o23, o24, o25] T o0 v0 a)
    (p1 : A0.put o1.dst v1 = A1) (hy1 : YieldsIf P #[o0, o1, o2, o3, o4, o5, o6, o7, o8, o9, o10, o11, o12, o13, o14, o15, o16, o17, o18, o19, o20, o21, o22, o23, o24, o25] T o1 v1 A0)
    (p2 : A1.put o2.dst v2 = A2) (hy2 : YieldsIf P #[o0, o1, o2, o3, o4, o5, o6, o7, o8, o9, o10, o11, o12, o13, o14, o15, o16, o17, o18, o19, o20, o21, o22, o23, o24, o25] T o2 v2 A1)
    (p3 : A2.put o3.dst v3 = A3) (hy3 : YieldsIf P #[o0, o1, o2, o3, o4, o5, o6, o7, o8, o9, o10, o11, o12, o13, o14, o15, o16, o17, o18, o19, o20, o21, o22, o23, o24, o25] T o3 v3 A2)
    (p4 : A3.put o4.dst v4 = A4) (hy4 : YieldsIf P #[o0, o1, o2, o3, o4, o5, o6, o7, o8, o9, o10, o11, o12, o13, o14, o15, o16, o17, o18, o19, o20, o21, o22, o23, o24, o25] T o4 v4 A3)
    (p5 : A4.put o5.dst v5 = A5) (hy5 : YieldsIf P #[o0, o1, o2, o3, o4, o5, o6, o7, o8, o9, o10, o11, o12, o13, o14, o15, o16, o17, o18, o19, o20, o21, o22, o23, o24, o25] T o5 v5 A4)
    (p6 : A5.put o6.dst v6 = A6) (hy6 : YieldsIf P #[o0, o1, o2, o3, o4, o5, o6, o7, o8, o9, o10, o11, o12, o13, o14, o15, o16, o17, o18, o19, o20, o21, o22, o23, o24, o25] T o6 v6 A5)
    (p7 : A6.put o7.dst v7 = A7) (hy7 : YieldsIf P #[o0, o1, o2, o3, o4, o5, o6, o7, o8, o9, o10, o11, o12, o13, o14, o15, o16, o17, o18, o19, o20, o21, o22, o23, o24, o25] T o7 v7 A6)
    (p8 : A7.put o8.dst v8 = A8) (hy8 : YieldsIf P #[o0, o1, o2, o3, o4, o5, o6, o7, o8, o9, o10, o11, o12, o13, o14, o15, o16, o17, o18, o19, o20, o21, o22, o23, o24, o25] T o8 v8 A7)
    (p9 : A8.put o9.dst v9 = A9) (hy9 : YieldsIf P #[o0, o1, o2, o3, o4, o5, o6, o7, o8, o9, o10, o11, o12, o13, o14, o15, o16, o17, o18, o19, o20, o21, o22, o23, o24, o25] T o9 v9 A8)
    (p10 : A9.put o10.dst v10 = A10) (hy10 : YieldsIf P #[o0, o1, o2, o3, o4, o5, o6, o7, o8, o9, o10, o11, o12, o13, o14, o15, o16, o17, o18, o19, o20, o21, o22, o23, o24, o25] T o10 v10 A9)
    (p11 : A10.put o11.dst v11 = A11) (hy11 : YieldsIf P #[o0, o1, o2, o3, o4, o5, o6, o7, o8, o9, o10, o11, o12, o13, o14, o15, o16, o17, o18, o19, o20, o21, o22, o23, o24, o25] T o11 v11 A10)
    (p12 : A11.put o12.dst v12 = A12) (hy12 : YieldsIf P #[o0, o1, o2, o3, o4, o5, o6, o7, o8, o9, o10, o11, o12, o13, o14, o15, o16, o17, o18, o19, o20, o21, o22, o23, o24, o25] T o12 v12 A11)
    (p13 : A12.put o13.dst v13 = A13) (hy13 : YieldsIf P #[o0, o1, o2, o3, o4, o5, o6, o7, o8, o9, o10, o11, o12, o13, o14, o15, o16, o17, o18, o19, o20, o21, o22, o23, o24, o25] T o13 v13 A12)
    (p14 : A13.put o14.dst v14 = A14) (hy14 : YieldsIf P #[o0, o1, o2, o3, o4, o5, o6, o7, o8, o9, o10, o11, o12, o13, o14, o15, o16, o17, o18, o19, o20, o21, o22, o23, o24, o25] T o14 v14 A13)
    (p16 : A14.put o16.dst v16 = A15) (hy16 : YieldsIf P #[o0, o1, o2, o3, o4, o5, o6, o7, o8, o9, o10, o11, o12, o13, o14, o15, o16, o17, o18, o19, o20, o21, o22, o23, o24, o25] T o16 v16 A14)
    (p17 : A15.put o17.dst v17 = A16) (hy17 : YieldsIf P #[o0, o1, o2, o3, o4, o5, o6, o7, o8, o9, o10, o11, o12, o13, o14, o15, o16, o17, o18, o19, o20, o21, o22, o23, o24, o25] T o17 v17 A15)
    (p18 : A16.put o18.dst v18 = A17) (hy18 : YieldsIf P #[o0, o1, o2, o3, o4, o5, o6, o7, o8, o9, o10, o11, o12, o13, o14, o15, o16, o17, o18, o19, o20, o21, o22, o23, o24, o25] T o18 v18 A16)
    (i0 : I0 w.drew)
    (hIT : (∀ w', I0 w' → T w') ∧ (∀ (u0 : Value) w', IX u0 w' → T w') ∧ (∀ (u1 : Value) w', IY u1 w' → T w') ∧ (∀ (u0 u1 : Value) w', I2 u0 u1 w' → T w') ∧ (∀ (u0 u1 u2 : Value) w', I3 u0 u1 u2 w' → T w') ∧ (∀ (u0 u1 u2 u3 : Value) w', I4 u0 u1 u2 u3 w' → T w') ∧ (∀ (u0 u1 u2 u3 u4 : Value) w', I5 u0 u1 u2 u3 u4 w' → T w') ∧ (∀ (u0 u1 u2 u3 u4 u5 : Value) w', I6 u0 u1 u2 u3 u4 u5 w' → T w') ∧ (∀ (u0 u1 u2 u3 u4 u5 u6 : Value) w', I7 u0 u1 u2 u3 u4 u5 u6 w' → T w'))
    (sx : ∀ w', I0 w' → ∀ K : Act → World → Prop, (∀ (u0 : Value) w2, IX u0 w2 → K (A17.put o15.dst u0) w2) → o15.wp P A17 w' K (NoPanic Q))
    (sy : ∀ w', I0 w' → ∀ K : Act → World → Prop, (∀ (u1 : Value) w2, IY u1 w2 → K (A17.put o19.dst u1) w2) → o19.wp P A17 w' K (NoPanic Q))
    (sxy : ∀ (u0 : Value) w', IX u0 w' → ∀ K : Act → World → Prop, (∀ (u1 : Value) w2, I2 u0 u1 w2 → K ((A17.put o15.dst u0).put o19.dst u1) w2) → o19.wp P (A17.put o15.dst u0) w' K (NoPanic Q))
    (syx : ∀ (u1 : Value) w', IY u1 w' → ∀ K : Act → World → Prop, (∀ (u0 : Value) w2, I2 u0 u1 w2 → K ((A17.put o19.dst u1).put o15.dst u0) w2) → o15.wp P (A17.put o19.dst u1) w' K (NoPanic Q))
    (s2 : ∀ (u0 u1 : Value) w', I2 u0 u1 w' → ∀ K : Act → World → Prop, (∀ (u2 : Value) w2, I3 u0 u1 u2 w2 → K (((A17.put o15.dst u0).put o19.dst u1).put o20.dst u2) w2) → o20.wp P ((A17.put o15.dst u0).put o19.dst u1) w' K (NoPanic Q))
    (s3 : ∀ (u0 u1 u2 : Value) w', I3 u0 u1 u2 w' → ∀ K : Act → World → Prop, (∀ (u3 : Value) w2, I4 u0 u1 u2 u3 w2 → K ((((A17.put o15.dst u0).put o19.dst u1).put o20.dst u2).put o21.dst u3) w2) → o21.wp P (((A17.put o15.dst u0).put o19.dst u1).put o20.dst u2) w' K (NoPanic Q))
    (s4 : ∀ (u0 u1 u2 u3 : Value) w', I4 u0 u1 u2 u3 w' → ∀ K : Act → World → Prop, (∀ (u4 : Value) w2, I5 u0 u1 u2 u3 u4 w2 → K (((((A17.put o15.dst u0).put o19.dst u1).put o20.dst u2).put o21.dst u3).put o22.dst u4) w2) → o22.wp P ((((A17.put o15.dst u0).put o19.dst u1).put o20.dst u2).put o21.dst u3) w' K (NoPanic Q))
    (s5 : ∀ (u0 u1 u2 u3 u4 : Value) w', I5 u0 u1 u2 u3 u4 w' → ∀ K : Act → World → Prop, (∀ (u5 : Value) w2, I6 u0 u1 u2 u3 u4 u5 w2 → K ((((((A17.put o15.dst u0).put o19.dst u1).put o20.dst u2).put o21.dst u3).put o22.dst u4).put o23.dst u5) w2) → o23.wp P (((((A17.put o15.dst u0).put o19.dst u1).put o20.dst u2).put o21.dst u3).put o22.dst u4) w' K (NoPanic Q))
    (s6 : ∀ (u0 u1 u2 u3 u4 u5 : Value) w', I6 u0 u1 u2 u3 u4 u5 w' → ∀ K : Act → World → Prop, (∀ (u6 : Value) w2, I7 u0 u1 u2 u3 u4 u5 u6 w2 → K (((((((A17.put o15.dst u0).put o19.dst u1).put o20.dst u2).put o21.dst u3).put o22.dst u4).put o23.dst u5).put o24.dst u6) w2) → o24.wp P ((((((A17.put o15.dst u0).put o19.dst u1).put o20.dst u2).put o21.dst u3).put o22.dst u4).put o23.dst u5) w' K (NoPanic Q))
    (se : ∀ (u0 u1 u2 u3 u4 u5 u6 : Value) w', I7 u0 u1 u2 u3 u4 u5 u6 w' → ∀ K : Act → World → Prop, (∀ w2, IE u0 u1 u2 u3 u4 u5 u6 w2 → K (((((((A17.put o15.dst u0).put o19.dst u1).put o20.dst u2).put o21.dst u3).put o22.dst u4).put o23.dst u5).put o24.dst u6) w2) → o25.wp P (((((((A17.put o15.dst u0).put o19.dst u1).put o20.dst u2).put o21.dst u3).put o22.dst u4).put o23.dst u5).put o24.dst u6) w' K (NoPanic Q))
    (h : ∀ (u0 u1 u2 u3 u4 u5 u6 : Value) w', IE u0 u1 u2 u3 u4 u5 u6 w' → Q .normal (((((((A17.put o15.dst u0).put o19.dst u1).put o20.dst u2).put o21.dst u3).put o22.dst u4).put o23.dst u5).put o24.dst u6) w') :
    (Code.region id #[o0, o1, o2, o3, o4, o5, o6, o7, o8, o9, o10, o11, o12, o13, o14, o15, o16, o17, o18, o19, o20, o21, o22, o23, o24, o25] true).wp P Q a w := by
  subst p0 p1 p2 p3 p4 p5 p6 p7 p8 p9 p10 p11 p12 p13 p14 p16 p17 p18
  obtain ⟨z0, zx, zy, z2, z3, z4, z5, z6, z7⟩ := hIT
  refine wp_region_noPanic ?_
  refine wp_region_any hm ?_
  refine AnyL.any (S := fun d w' => d.getD 25 true = false → T w') _ _ _ _ ?_
  show AnyL P .any #[o0, o1, o2, o3, o4, o5, o6, o7, o8, o9, o10, o11, o12, o13, o14, o15, o16, o17, o18, o19, o20, o21, o22, o23, o24, o25] (NoPanic Q) _ 26 #[false, false, false, false, false, false, false, false, false, false, false, false, false, false, false, false, false, false, false, false, false, false, false, false, false, false] a w.drew
  have hSi : ∀ i, i ≠ 25 → ∀ (d : Array Bool) (w' : World), ((d.setIfInBounds i true).getD 25 true = false → T w') ↔ (d.getD 25 true = false → T w') := by
    intro i h4 d w'
    rw [getD_set_ne true h4]
  refine AnyL.take (i := 0) (t := 25) (oi := o0) (ot := o25) (T := T) rfl rfl (by decide) hs f0 r0 e0 (fun _ _ _ h => h) (fun d w' h9 hd => h9 hd) (hSi 0 (by decide)) hy0 rfl (fun _ => z0 _ i0) ?_
  refine AnyL.take (i := 1) (t := 25) (oi := o1) (ot := o25) (T := T) rfl rfl (by decide) hs f1 r1 e1 (fun _ _ _ h => h) (fun d w' h9 hd => h9 hd) (hSi 1 (by decide)) hy1 rfl (fun _ => z0 _ i0) ?_
  refine AnyL.take (i := 2) (t := 25) (oi := o2) (ot := o25) (T := T) rfl rfl (by decide) hs f2 r2 e2 (fun _ _ _ h => h) (fun d w' h9 hd => h9 hd) (hSi 2 (by decide)) hy2 rfl (fun _ => z0 _ i0) ?_
  refine AnyL.take (i := 3) (t := 25) (oi := o3) (ot := o25) (T := T) rfl rfl (by decide) hs f3 r3 e3 (fun _ _ _ h => h) (fun d w' h9 hd => h9 hd) (hSi 3 (by decide)) hy3 rfl (fun _ => z0 _ i0) ?_
  refine AnyL.take (i := 4) (t := 25) (oi := o4) (ot := o25) (T := T) rfl rfl (by decide) hs f4 r4 e4 (fun _ _ _ h => h) (fun d w' h9 hd => h9 hd) (hSi 4 (by decide)) hy4 rfl (fun _ => z0 _ i0) ?_
  refine AnyL.take (i := 5) (t := 25) (oi := o5) (ot := o25) (T := T) rfl rfl (by decide) hs f5 r5 e5 (fun _ _ _ h => h) (fun d w' h9 hd => h9 hd) (hSi 5 (by decide)) hy5 rfl (fun _ => z0 _ i0) ?_
  refine AnyL.take (i := 6) (t := 25) (oi := o6) (ot := o25) (T := T) rfl rfl (by decide) hs f6 r6 e6 (fun _ _ _ h => h) (fun d w' h9 hd => h9 hd) (hSi 6 (by decide)) hy6 rfl (fun _ => z0 _ i0) ?_
  refine AnyL.take (i := 7) (t := 25) (oi := o7) (ot := o25) (T := T) rfl rfl (by decide) hs f7 r7 e7 (fun _ _ _ h => h) (fun d w' h9 hd => h9 hd) (hSi 7 (by decide)) hy7 rfl (fun _ => z0 _ i0) ?_
  refine AnyL.take (i := 8) (t := 25) (oi := o8) (ot := o25) (T := T) rfl rfl (by decide) hs f8 r8 e8 (fun _ _ _ h => h) (fun d w' h9 hd => h9 hd) (hSi 8 (by decide)) hy8 rfl (fun _ => z0 _ i0) ?_
  refine AnyL.take (i := 9) (t := 25) (oi := o9) (ot := o25) (T := T) rfl rfl (by decide) hs f9 r9 e9 (fun _ _ _ h => h) (fun d w' h9 hd => h9 hd) (hSi 9 (by decide)) hy9 rfl (fun _ => z0 _ i0) ?_
  refine AnyL.take (i := 10) (t := 25) (oi := o10) (ot := o25) (T := T) rfl rfl (by decide) hs f10 r10 e10 (fun _ _ _ h => h) (fun d w' h9 hd => h9 hd) (hSi 10 (by decide)) hy10 rfl (fun _ => z0 _ i0) ?_
  refine AnyL.take (i := 11) (t := 25) (oi := o11) (ot := o25) (T := T) rfl rfl (by decide) hs f11 r11 e11 (fun _ _ _ h => h) (fun d w' h9 hd => h9 hd) (hSi 11 (by decide)) hy11 rfl (fun _ => z0 _ i0) ?_
  refine AnyL.take (i := 12) (t := 25) (oi := o12) (ot := o25) (T := T) rfl rfl (by decide) hs f12 r12 e12 (fun _ _ _ h => h) (fun d w' h9 hd => h9 hd) (hSi 12 (by decide)) hy12 rfl (fun _ => z0 _ i0) ?_
  refine AnyL.take (i := 13) (t := 25) (oi := o13) (ot := o25) (T := T) rfl rfl (by decide) hs f13 r13 e13 (fun _ _ _ h => h) (fun d w' h9 hd => h9 hd) (hSi 13 (by decide)) hy13 rfl (fun _ => z0 _ i0) ?_
  refine AnyL.take (i := 14) (t := 25) (oi := o14) (ot := o25) (T := T) rfl rfl (by decide) hs f14 r14 e14 (fun _ _ _ h => h) (fun d w' h9 hd => h9 hd) (hSi 14 (by decide)) hy14 rfl (fun _ => z0 _ i0) ?_
  refine AnyL.take (i := 16) (t := 25) (oi := o16) (ot := o25) (T := T) rfl rfl (by decide) hs f16 r16 e16 (fun _ _ _ h => h) (fun d w' h9 hd => h9 hd) (hSi 16 (by decide)) hy16 rfl (fun _ => z0 _ i0) ?_
  refine AnyL.take (i := 17) (t := 25) (oi := o17) (ot := o25) (T := T) rfl rfl (by decide) hs f17 r17 e17 (fun _ _ _ h => h) (fun d w' h9 hd => h9 hd) (hSi 17 (by decide)) hy17 rfl (fun _ => z0 _ i0) ?_
  refine AnyL.take (i := 18) (t := 25) (oi := o18) (ot := o25) (T := T) rfl rfl (by decide) hs f18 r18 e18 (fun _ _ _ h => h) (fun d w' h9 hd => h9 hd) (hSi 18 (by decide)) hy18 rfl (fun _ => z0 _ i0) ?_
  have rest : ∀ (u0 u1 : Value) (w2 : World), I2 u0 u1 w2 → AnyL P .any #[o0, o1, o2, o3, o4, o5, o6, o7, o8, o9, o10, o11, o12, o13, o14, o15, o16, o17, o18, o19, o20, o21, o22, o23, o24, o25] (NoPanic Q) (fun d w' => d.getD 25 true = false → T w') 6 #[true, true, true, true, true, true, true, true, true, true, true, true, true, true, true, true, true, true, true, true, false, false, false, false, false, false] ((((((((((((((((((((a.put o0.dst v0).put o1.dst v1).put o2.dst v2).put o3.dst v3).put o4.dst v4).put o5.dst v5).put o6.dst v6).put o7.dst v7).put o8.dst v8).put o9.dst v9).put o10.dst v10).put o11.dst v11).put o12.dst v12).put o13.dst v13).put o14.dst v14).put o16.dst v16).put o17.dst v17).put o18.dst v18).put o15.dst u0).put o19.dst u1) w2 := by
    intro u0 u1 w2 i2
    refine AnyL.forced q20 rfl g20 (fun K hK => s2 u0 u1 w2 i2 K (fun u2 w3 i3 => hK _ _ (fun _ => z3 u0 u1 u2 w3 i3) ?_))
    refine AnyL.forced q21 rfl g21 (fun K hK => s3 u0 u1 u2 w3 i3 K (fun u3 w4 i4 => hK _ _ (fun _ => z4 u0 u1 u2 u3 w4 i4) ?_))
    refine AnyL.forced q22 rfl g22 (fun K hK => s4 u0 u1 u2 u3 w4 i4 K (fun u4 w5 i5 => hK _ _ (fun _ => z5 u0 u1 u2 u3 u4 w5 i5) ?_))
    refine AnyL.forced q23 rfl g23 (fun K hK => s5 u0 u1 u2 u3 u4 w5 i5 K (fun u5 w6 i6 => hK _ _ (fun _ => z6 u0 u1 u2 u3 u4 u5 w6 i6) ?_))
    refine AnyL.forced q24 rfl g24 (fun K hK => s6 u0 u1 u2 u3 u4 u5 w6 i6 K (fun u6 w7 i7 => hK _ _ (fun _ => z7 u0 u1 u2 u3 u4 u5 u6 w7 i7) ?_))
    refine AnyL.forced q25 rfl g25 (fun K hK => se u0 u1 u2 u3 u4 u5 u6 w7 i7 K (fun we ie => hK _ _ (fun h9 => (by cases h9)) ?_))
    exact ⟨rr, NoPanic.normal (h u0 u1 u2 u3 u4 u5 u6 we ie)⟩
  refine AnyL.two qa rfl rfl g15 g19 (fun K hK => sx w.drew i0 K (fun u0 w1 i1 => hK _ _ (fun _ => zx u0 w1 i1) ?_)) (fun K hK => sy w.drew i0 K (fun u1 w1 i1 => hK _ _ (fun _ => zy u1 w1 i1) ?_))
  · exact AnyL.forced qx rfl g19 (fun K hK => sxy u0 w1 i1 K (fun u1 w2 i2 => hK _ _ (fun _ => z2 u0 u1 w2 i2) (rest u0 u1 w2 i2)))
  · refine AnyL.forced qy rfl g15 (fun K hK => syx u1 w1 i1 K (fun u0 w2 i2 => hK _ _ (fun _ => z2 u0 u1 w2 i2) ?_))
    rw [Act.put_comm _ _ _ nexy]
    exact rest u0 u1 w2 i2

end
end Go.Proofs.YtajfaekfhohbmaaDoor
/-
  One operation: a call, by its contract.
-/
namespace Go.Proofs.YtajfaekfhohbmaaDoor
open Go Go.RowKit Go.BigFrame
set_option linter.unusedVariables false
set_option linter.unusedSimpArgs false

theorem wp_callN {o : Oper} {a : Act} {w : World} {K : Act → World → Prop} {Q : Exit → Act → World → Prop} {f : FuncId} {xs : Array Operand} {ts : Array TypeId} (ho : o.op = .call { callee := .value (.func f), args := xs, argTypes := ts })
    (hcl : ∀ args W, (callFunc f args).run Tryd.prog W = .ok (.enter f args) W) (us : List Value) (he : xs.toList.map a.eval = us) {R : Ending → World → Prop}
    (hc : Calls Tryd.prog f us.toArray w R) (h : ∀ e w', R e w' → ∃ v, e = .returned v ∧ K (a.put o.dst v) w') : o.wp Tryd.prog a w K Q := by
  have he2 : xs.map a.eval = us.toArray := by rw [← he]; cases xs; simp only [List.map_toArray]
  unfold Oper.wp execOp
  simp only [ho]
  have hf : a.eval (.func f) = .func (.func f) #[] #[] := rfl
  simp only [resolve, invoke, hf, he2, Sem.run_bind, Sem.run_pure, Result.andThen_ok, hcl]
  simp [Deferred.ofValue, hcl, go_sem]
  refine hc.mono ?_
  intro e w2 h2
  obtain ⟨v, rfl, h3⟩ := h e w2 h2
  exact h3
end Go.Proofs.YtajfaekfhohbmaaDoor
namespace Go.Proofs.YtajfaekfhohbmaaDoor
open Go.RowKit Go.BigFrame
set_option linter.unusedVariables false
set_option linter.unusedSimpArgs false

theorem wp_appendT {P : Program} {o : Oper} {a : Act} {w : World} {K : Act → World → Prop} {Q : Exit → Act → World → Prop} {s x : Operand} {t : TypeId} (ho : o.op = .call { callee := .builtin .append, args := #[s, x], argTypes := #[t, t] }) (hty : o.type = t) {v u r : Value} {w1 : World} (hs : a.eval s = v) (hx : a.eval x = u)
    (hrun : (Builtin.append_ #[t, t] t #[v, u]).run P w = .ok r w1) (hK : K (a.put o.dst r) w1) : o.wp P a w K Q := by
  unfold Oper.wp execOp
  simp only [ho, hty, resolve, invoke, builtin, Sem.run_bind, Sem.run_pure, Result.andThen_ok, List.map_toArray, List.map_cons, List.map_nil, hs, hx, hrun]
  exact hK

theorem size_part : (Tryd.prog.info? 74).map (·.size) = some 33 := by kernel_rfl
theorem zP_size : zP.size = 33 := rfl
theorem z87_size : (Tryd.zeroCells103).size = 66 := by kernel_rfl
theorem pair_fold (x y : List Value) (hx : x.length = 33) (hy : y.length = 33) : List.foldl (fun cs x => cs.setIfInBounds (33 + x.snd) x.fst) (List.foldl (fun cs x => cs.setIfInBounds x.snd x.fst) Tryd.zeroCells103 x.zipIdx) y.zipIdx = (x ++ y).toArray := by
  have h1 := fold_put x Tryd.zeroCells103 0 0 (by rw [z87_size]; omega)
  simp only [Nat.zero_add] at h1
  rw [h1, List.take_zero, List.nil_append]
  have h2 := fold_put y (x ++ List.drop x.length Tryd.zeroCells103.toList).toArray 33 0 (by simp [z87_size]; omega)
  rw [h2]
  simp only [Nat.add_zero]
  congr 1
  rw [List.take_append_of_le_length (by omega), List.take_of_length_le (by omega), List.drop_eq_nil_of_le (by simp [z87_size]; omega), List.append_nil]
theorem build_partL (leaf : List Nat) (hl : leaf.length = 32) : List.foldl (fun cs x => cs.setIfInBounds x.snd x.fst) zP (leaf.map u8).zipIdx = (partC leaf (.pointer none)).toArray := by
  have h := fold_put (leaf.map u8) zP 0 0 (by rw [zP_size]; simp [hl])
  simp only [Nat.zero_add] at h
  rw [h, List.length_map, hl, List.take_zero, List.nil_append]
  unfold partC
  rfl
theorem build_part (leaf : List Nat) (hl : leaf.length = 32) : Array.foldl (fun cs x => cs.setIfInBounds x.snd x.fst) zP (brow leaf).zipIdx 0 32 = (partC leaf (.pointer none)).toArray := by
  have hs : (brow leaf).zipIdx.size = 32 := by rw [Array.size_zipIdx, brow_size, hl]
  rw [← build_partL leaf hl]
  conv => lhs; rw [← hs]
  rw [← Array.foldl_toList, Array.toList_zipIdx]
  rfl
theorem part_fold (s : List Nat) (k : Value) (hs : s.length = 32) : (Array.foldl (fun cs x => cs.setIfInBounds x.snd x.fst) zP (brow s).zipIdx 0 32).setIfInBounds 32 k = (partC s k).toArray := by
  rw [build_part s hs]
  apply Array.toList_inj.1
  simp [partC, List.set_append, hs]
theorem build_one (s : List Nat) (k : Value) (hs : s.length = 32) : List.foldl (fun cs x => cs.setIfInBounds x.snd x.fst) zP (partC s k).zipIdx = (partC s k).toArray := by
  have h := fold_put (partC s k) zP 0 0 (by rw [zP_size, partC_len hs]; omega)
  simp only [Nat.zero_add] at h
  rw [h, partC_len hs, List.take_zero, List.nil_append, List.drop_eq_nil_of_le (by show 33 ≤ 33; omega), List.append_nil]

theorem built_part (s : List Nat) (k : Value) (hs : s.length = 32) (hk : k.cells = #[k]) : Tryd.prog.built 74 [(0, .agg (brow s)), (1, k)] = some (partC s k).toArray := by
  obtain ⟨i0, hi, hz0, hz1, hz2⟩ := info_parts Tryd.infoP
  have hb : (brow s).size = 32 := by rw [brow_size, hs]
  have h2 := part_fold s k hs
  have h3 := build_part s hs
  have h4 : (partC s (Value.pointer none)).toArray.size = 33 := by rw [List.size_toArray, partC_len hs]
  have hpl : (fun (f : Array Field) => f.toList.mapM (fun f => (Tryd.prog.info? f.type).map fun i => (f.offset, i.size))) <$> (match Tryd.prog.underlying 74 with | some (.struct fs) => some fs | _ => none) = some (some [(0, 32), (32, 1)]) := by kernel_rfl
  unfold Program.built
  rw [hi]
  cases hu : Tryd.prog.underlying 74 with
  | none => rw [hu] at hpl; simp at hpl
  | some u =>
    rw [hu] at hpl
    cases u <;> simp at hpl
    simp only [hz0, hpl]
    have e1 : (Value.agg zP).cells = zP := rfl
    have e2 : (Value.agg (brow s)).cells = brow s := rfl
    have e3 : ¬ ((brow s).size ≠ 32 || decide (0 + (brow s).size > zP.size)) = true := by rw [hb, zP_size]; decide
    have e4 : Array.foldl (fun cs x => cs.setIfInBounds (0 + x.snd) x.fst) zP (brow s).zipIdx 0 (brow s).zipIdx.size = (partC s (Value.pointer none)).toArray := by
      rw [← h3]; simp only [Nat.zero_add, Array.size_zipIdx, hb]
    rw [e1, Instr.fill]
    simp only [List.getElem?_toArray, List.getElem?_cons_zero, List.getElem?_cons_succ, e2]
    rw [if_neg e3]
    rw [h3] at h2
    have e5 : ¬ ((#[k] : Array Value).size ≠ 1 || decide (32 + (#[k] : Array Value).size > (partC s (Value.pointer none)).toArray.size)) = true := by rw [h4]; simp
    rw [e4, Instr.fill]
    simp only [List.getElem?_cons_zero, List.getElem?_cons_succ, hk]
    rw [if_neg e5, Instr.fill]
    exact congrArg some h2
theorem wp_build_part {o : Oper} {a : Act} {w : World} {K : Act → World → Prop} {Q : Exit → Act → World → Prop} (x y : Operand) (ho : o.op = .build 74 #[(0, x), (1, y)]) (s : List Nat) (k : Value) (hs : s.length = 32) (hk : k.cells = #[k]) (hx : a.eval x = .agg (brow s)) (hy : a.eval y = k) (h : K (a.put o.dst (.agg (partC s k).toArray)) w) : o.wp Tryd.prog a w K Q := by
  have hb := built_part s k hs hk
  refine wp_build _ _ ho ?_ ?_
  · simp only [List.map_toArray, List.map_cons, List.map_nil, hx, hy]; rw [hb]; rfl
  · simp only [List.map_toArray, List.map_cons, List.map_nil, hx, hy]; rw [hb]; exact h
set_option maxRecDepth 100000 in
theorem wp_store_t2 {o : Oper} {a : Act} {w : World} {K : Act → World → Prop} {Q : Exit → Act → World → Prop} (x y : Operand) (ho : o.op = .store 68 x y) (t : Nat) (u : Value) (cs : Array Value) (hu : ∃ a1 n1 c1, u = .slice a1 n1 c1) (hx : a.eval x = .pointer (some ⟨t, 2, none⟩)) (hy : a.eval y = u) (hq : w.heap[t]? = some (.cells cs 70 (0, 0))) (hcs : 2 < cs.size) (h : K (a.put o.dst undef) (w.setCell ⟨t, 2, none⟩ u)) : o.wp Tryd.prog a w K Q := by
  obtain ⟨a1, n1, c1, rfl⟩ := hu
  have hsz : ∃ c, w.cell? ⟨t, 2, none⟩ = some c := by rw [cell_of_row _ _ 2 _ _ _ hq]; exact ⟨_, Array.getElem?_eq_getElem hcs⟩
  obtain ⟨c0, cq9⟩ := hsz
  have fz9 : w.frozen? ⟨t, 2, none⟩ = false := by simp [World.frozen?, hq]
  unfold Oper.wp execOp
  simp only [ho, hx, hy]
  go_simp
  exact h
theorem range_rowV {w : World} {g T : Nat} {l : List Value} (h : w.heap[g]? = some (.cells l.toArray T (0, 0))) : w.rangeAt g 0 l := by
  intro j v hj
  have h1 := cell_of_row w g j _ _ _ h
  rw [Nat.zero_add, h1]
  simpa using hj
theorem range_part {w : World} {g : Nat} {s : List Nat} {k : Value} (h : w.rangeAt g 0 (partC s k)) : w.rangeAt g 0 (s.map u8) := by
  intro j v hj
  refine h j v ?_
  unfold partC
  rw [List.getElem?_append_left (List.getElem?_eq_some_iff.1 hj).1]
  exact hj
theorem owns_front {w : World} {base g1 cap1 j : Nat} {front2 : List Pk} {pa top : Pk} (h : w.ownsRow base 74 33 (.slice (some ⟨g1, 0, none⟩) ((front2 ++ [pa]).length + 1) cap1) ((front2 ++ [pa]).length + 1) (cellsK (front2 ++ [pa] ++ [top]))) (hj : front2.length = j) (h1 : pa.s.length = 32) (h2 : top.s.length = 32) (hd : ∀ p ∈ front2, p.s.length = 32) : w.ownsRow base 74 33 (.slice (some ⟨g1, 0, none⟩) j cap1) j (cellsK front2) := by
  have h9 := ownsK_take h j (by simp; omega)
  have e : (cellsK (front2 ++ [pa] ++ [top])).take (j * 33) = cellsK front2 := by
    rw [cellsK_app, cellsK_app, List.append_assoc, List.take_left' (by rw [cellsK_len' hd, hj])]
  rw [e] at h9
  exact h9

end Go.Proofs.YtajfaekfhohbmaaDoor
