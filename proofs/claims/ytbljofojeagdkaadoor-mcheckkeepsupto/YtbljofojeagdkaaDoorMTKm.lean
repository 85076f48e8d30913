import Derived.Test.YtbljofojeagdkaaDoorMT6
import Derived.Test.YtbljofojeagdkaaDoorMSplit
import Derived.Lib.BitFns
namespace Go.Proofs.YtbljofojeagdkaaDoor
open Go.RowKit Go.BigFrame
set_option linter.unusedVariables false
set_option linter.unusedSimpArgs false

theorem inc_split : ∀ {S T : List Nat} {b x : Nat}, Inc b (S ++ x :: T) → Inc (x + 1) T ∧ b ≤ x ∧ Inc b S ∧ ∀ y ∈ S, y < x
  | [], T, b, x, h => ⟨h.2, h.1, trivial, by simp⟩
  | y :: S, T, b, x, h => by
    obtain ⟨h1, h2⟩ := h
    obtain ⟨e1, e2, e3, e4⟩ := inc_split (S := S) h2
    refine ⟨e1, by omega, ⟨h1, e3⟩, ?_⟩
    intro z hz
    rcases List.mem_cons.1 hz with rfl | hz
    · omega
    · exact e4 z hz
theorem sumP_app (S T : List Nat) : sumP (S ++ T) = sumP S + sumP T := by simp [sumP]
theorem inc_lt : ∀ {S : List Nat} {b x : Nat}, Inc b S → (∀ y ∈ S, y < x) → b ≤ x → sumP S + 2 ^ b ≤ 2 ^ x
  | [], b, x, _, _, hb => by simp [sumP]; exact Nat.pow_le_pow_right (by omega) hb
  | h :: S, b, x, hi, hy, hb => by
    have hx := hy h (by simp)
    have h1 := inc_lt (S := S) (b := h + 1) (x := x) hi.2 (fun y hm => hy y (by simp [hm])) (by omega)
    have h2 : 2 ^ b ≤ 2 ^ h := Nat.pow_le_pow_right (by omega) hi.1
    rw [sumP_cons]
    rw [Nat.pow_succ] at h1
    omega
theorem inc_down : ∀ {S : List Nat} {b : Nat} (c : Nat), Inc (b + c) S → Inc b (S.map (· - c)) ∧ sumP S = 2 ^ c * sumP (S.map (· - c))
  | [], b, c, _ => ⟨trivial, by simp [sumP]⟩
  | h :: S, b, c, hi => by
    obtain ⟨h1, h2⟩ := hi
    have e : h + 1 = (h - c + 1) + c := by omega
    rw [e] at h2
    obtain ⟨e1, e2⟩ := inc_down c h2
    refine ⟨⟨by simp only; omega, e1⟩, ?_⟩
    rw [List.map_cons, sumP_cons, sumP_cons, e2, Nat.mul_add, ← Nat.pow_add]
    congr 2
    omega
theorem inc_mem : ∀ {S : List Nat} {b : Nat}, Inc b S → ∀ y ∈ S, b ≤ y
  | [], _, _, y, hy => by simp at hy
  | h :: S, b, hi, y, hy => by
    rcases List.mem_cons.1 hy with rfl | hy
    · exact hi.1
    · have h1 := inc_mem hi.2 y hy
      have h2 := hi.1
      omega
theorem pop_inc : ∀ (f : Nat) (S : List Nat), Inc 0 S → (∀ h ∈ S, h < f) → Lib.popAux f (sumP S) = S.length
  | 0, S, _, h => by
    cases S with
    | nil => rfl
    | cons x S => exact absurd (h x (by simp)) (by omega)
  | f + 1, S, hi, h => by
    rw [Lib.popAux]
    cases S with
    | nil =>
      have := pop_inc f [] trivial (by simp)
      simpa [sumP] using this
    | cons x S =>
      by_cases hx : x = 0
      · subst hx
        have h2 : Inc (0 + 1) S := hi.2
        obtain ⟨e1, e2⟩ := inc_down 1 h2
        have h3 := pop_inc f _ e1 (by
          intro y hy
          obtain ⟨z, hz, rfl⟩ := List.mem_map.1 hy
          have := h z (by simp [hz])
          have := inc_mem h2 z hz
          omega)
        rw [sumP_cons, e2]
        have e3 : (2 ^ 0 + 2 ^ 1 * sumP (S.map (· - 1))) % 2 = 1 := by omega
        have e4 : (2 ^ 0 + 2 ^ 1 * sumP (S.map (· - 1))) / 2 = sumP (S.map (· - 1)) := by omega
        rw [e3, e4, h3, List.length_map, List.length_cons]; omega
      · have h2 : Inc (0 + 1) (x :: S) := ⟨by omega, hi.2⟩
        obtain ⟨e1, e2⟩ := inc_down 1 h2
        have h3 := pop_inc f _ e1 (by
          intro y hy
          obtain ⟨z, hz, rfl⟩ := List.mem_map.1 hy
          have := h z hz
          have := inc_mem h2 z hz
          omega)
        rw [e2]
        have e3 : (2 ^ 1 * sumP ((x :: S).map (· - 1))) % 2 = 0 := by omega
        have e4 : (2 ^ 1 * sumP ((x :: S).map (· - 1))) / 2 = sumP ((x :: S).map (· - 1)) := by omega
        rw [e3, e4, h3, List.length_map]; omega
theorem xor_high {k q x y : Nat} (hx : x < 2 ^ k) (hy : y < 2 ^ k) : (2 ^ k * q + x) ^^^ (2 ^ k * q + y) = x ^^^ y := by
  apply Nat.eq_of_testBit_eq
  intro i
  rw [Nat.testBit_xor, Nat.testBit_xor, Nat.testBit_two_pow_mul_add q hx, Nat.testBit_two_pow_mul_add q hy]
  by_cases h : i < k
  · rw [if_pos h, if_pos h]
  · rw [if_neg h, if_neg h]
    have e1 : x.testBit i = false := Nat.testBit_lt_two_pow (Nat.lt_of_lt_of_le hx (Nat.pow_le_pow_right (by omega) (by omega)))
    have e2 : y.testBit i = false := Nat.testBit_lt_two_pow (Nat.lt_of_lt_of_le hy (Nat.pow_le_pow_right (by omega) (by omega)))
    rw [e1, e2]; simp
theorem xor_top {k b r : Nat} (hb : b < 2 ^ k) (hr : r < 2 ^ k) : 2 ^ k ≤ (r ^^^ (2 ^ k + b)) ∧ (r ^^^ (2 ^ k + b)) < 2 ^ (k + 1) := by
  have hp : 2 ^ (k + 1) = 2 * 2 ^ k := by rw [Nat.pow_succ]; omega
  refine ⟨?_, Nat.xor_lt_two_pow (by omega) (by omega)⟩
  apply Nat.ge_two_pow_of_testBit
  rw [Nat.testBit_xor, Nat.testBit_lt_two_pow hr]
  have : (2 ^ k + b).testBit k = true := by
    rw [Nat.testBit_two_pow_add_eq, Nat.testBit_lt_two_pow hb]; rfl
  rw [this]; rfl
theorem find_peak {z : Int} {w : World} : ∀ {ps : List Pk} {lo : Nat}, (∀ p ∈ ps, PA z w p.h p.s p.k p.l) → lo < (leavesK ps).length → ∃ A p B, ps = A ++ p :: B ∧ (leavesK A).length ≤ lo ∧ lo < (leavesK A).length + 2 ^ p.h
  | [], lo, _, h => by simp [leavesK] at h
  | p :: ps, lo, hok, h => by
    have hp := (hok p (by simp)).len
    have e : leavesK (p :: ps) = p.l ++ leavesK ps := by simp [leavesK]
    rw [e, List.length_append, hp] at h
    by_cases hl : lo < 2 ^ p.h
    · exact ⟨[], p, ps, rfl, by simp [leavesK], by simpa [leavesK] using hl⟩
    · obtain ⟨A, q, B, rfl, h1, h2⟩ := find_peak (ps := ps) (lo := lo - 2 ^ p.h) (fun q hq => hok q (by simp [hq])) (by omega)
      have e2 : leavesK (p :: A) = p.l ++ leavesK A := by simp [leavesK]
      refine ⟨p :: A, q, B, rfl, ?_, ?_⟩ <;> rw [e2, List.length_append, hp] <;> omega
/-- The peak that holds the leaf lo. -/
theorem peak_at {z : Int} {w : World} {ps : List Pk} (h : PKs z w ps) {lo n : Nat} (hn : n = (leavesK ps).length) (hlo : lo < n) (hb : n < 32768) :
    ∃ A p B, ps = A ++ p :: B ∧ Lib.bitLen (lo ^^^ n) = p.h + 1 ∧ Lib.onesCount (n / 2 ^ (p.h + 1)) = A.length ∧ (leavesK A).length = lo / 2 ^ p.h * 2 ^ p.h ∧ p.h < 15 ∧ ∀ h, 2 ^ h ∣ lo → lo + 2 ^ h ≤ n → h ≤ p.h := by
  obtain ⟨A, p, B, rfl, h1, h2⟩ := find_peak h.ok (lo := lo) (by omega)
  have hi := h.inc
  rw [List.reverse_append, List.reverse_cons, List.append_assoc, List.map_append, List.singleton_append, List.map_cons] at hi
  obtain ⟨i1, i2, i3, i4⟩ := inc_split hi
  have lA := leavesK_len (ps := A) (fun q hq => h.ok q (by simp [hq]))
  have lB := leavesK_len (ps := B) (fun q hq => h.ok q (by simp [hq]))
  have lp := (h.ok p (by simp)).len
  have ltot : (leavesK (A ++ p :: B)).length = (leavesK A).length + 2 ^ p.h + (leavesK B).length := by
    rw [leavesK_app, List.length_append]
    have e : leavesK (p :: B) = p.l ++ leavesK B := by simp [leavesK]
    rw [e, List.length_append, lp]; omega
  have hB := inc_lt i3 i4 (Nat.zero_le _)
  obtain ⟨j1, j2⟩ := inc_down (b := 0) (p.h + 1) (by rw [Nat.zero_add]; exact i1)
  obtain ⟨q, hq⟩ : ∃ q, sumP ((A.reverse.map (·.h)).map (· - (p.h + 1))) = q := ⟨_, rfl⟩
  rw [hq] at j2
  obtain ⟨k, hk⟩ : ∃ k, p.h = k := ⟨_, rfl⟩
  rw [hk] at h2 ltot hB j1 j2 hq
  have hp0 : 1 ≤ 2 ^ k := Nat.one_le_two_pow
  have hp : 2 ^ (k + 1) = 2 * 2 ^ k := by rw [Nat.pow_succ]; omega
  obtain ⟨r, hr⟩ : ∃ r, lo = 2 ^ (k + 1) * q + r := ⟨lo - 2 ^ (k + 1) * q, by omega⟩
  have hr2 : r < 2 ^ k := by omega
  obtain ⟨b, hbb⟩ : ∃ b, (leavesK B).length = b := ⟨_, rfl⟩
  have hb2 : b < 2 ^ k := by omega
  have hn2 : n = 2 ^ (k + 1) * q + (2 ^ k + b) := by omega
  have hk12 : k < 15 := by
    rcases Nat.lt_or_ge k 15 with h9 | h9
    · exact h9
    · have : 2 ^ 15 ≤ 2 ^ k := Nat.pow_le_pow_right (by omega) h9
      omega
  refine ⟨A, p, B, rfl, ?_, ?_, ?_, ?_, ?_⟩
  · rw [hk]
    have hx := xor_top hb2 hr2
    have e : lo ^^^ n = r ^^^ (2 ^ k + b) := by rw [hr, hn2]; exact xor_high (by omega) (by omega)
    rw [e]
    have hlt : (r ^^^ (2 ^ k + b)) < 2 ^ 64 := Nat.lt_of_lt_of_le hx.2 (Nat.pow_le_pow_right (by omega) (by omega))
    rw [bitLen_log _ (by omega) hlt, (Nat.log2_eq_iff (by omega)).2 hx]
  · rw [hk]
    have e : n / 2 ^ (k + 1) = q := by
      rw [hn2, Nat.mul_add_div (by omega), Nat.div_eq_of_lt (by omega)]; omega
    rw [e]
    have hql : q < 32768 := by
      have : q ≤ 2 ^ (k + 1) * q := Nat.le_mul_of_pos_left q (by omega)
      omega
    have h9 := pop_inc 64 _ j1 (by
      intro y hy
      rcases Nat.lt_or_ge y 64 with h9 | h9
      · exact h9
      · have h8 : 2 ^ y ≤ q := by
          rw [← hq]
          obtain ⟨S1, S2, e⟩ := List.append_of_mem hy
          rw [e, sumP_app, sumP_cons]; omega
        have h7 : 2 ^ 64 ≤ 2 ^ y := Nat.pow_le_pow_right (by omega) h9
        omega)
    rw [hq] at h9
    unfold Lib.onesCount
    rw [h9]; simp
  · rw [hk]
    have e : lo / 2 ^ k = 2 * q := by
      have e2 : lo = 2 ^ k * (2 * q) + r := by rw [hr, hp, Nat.mul_comm 2 (2 ^ k), Nat.mul_assoc]
      rw [e2, Nat.mul_add_div (by omega), Nat.div_eq_of_lt hr2]; omega
    rw [e, lA, j2, hp, Nat.mul_comm (2 * q), ← Nat.mul_assoc, Nat.mul_comm 2]
  · rw [hk]; exact hk12
  · rw [hk]
    intro h hd hle
    rcases Nat.lt_or_ge k h with h9 | h9
    · exfalso
      obtain ⟨e, he⟩ : ∃ e, h = k + 1 + e := ⟨h - (k + 1), by omega⟩
      have h8 : 2 ^ (k + 1) ≤ 2 ^ h := Nat.pow_le_pow_right (by omega) (by omega)
      have h7 : 2 ^ (k + 1) ∣ lo := Nat.dvd_trans (Nat.pow_dvd_pow 2 (by omega)) hd
      rw [hr] at h7
      have h6 : 2 ^ (k + 1) ∣ r := (Nat.dvd_add_right (Nat.dvd_mul_right _ _)).1 h7
      have h5 : r = 0 := Nat.eq_zero_of_dvd_of_lt h6 (by omega)
      omega
    · exact h9
/-- The leaves of the whole subtree of the height h that holds lo. -/
def subL (L : List (List Nat)) (lo h : Nat) : List (List Nat) := (L.drop (lo / 2 ^ h * 2 ^ h)).take (2 ^ h)
theorem subL_kids {L : List (List Nat)} {lo h : Nat} {l0 l1 : List (List Nat)} (e : l0 ++ l1 = subL L lo (h + 1)) (h0 : l0.length = 2 ^ h) (h1 : l1.length = 2 ^ h) : (lo / 2 ^ h % 2 = 0 → l0 = subL L lo h) ∧ (lo / 2 ^ h % 2 = 1 → l1 = subL L lo h) := by
  have hp : 2 ^ (h + 1) = 2 ^ h * 2 := Nat.pow_succ ..
  have hd : lo / 2 ^ (h + 1) = lo / 2 ^ h / 2 := by rw [hp, Nat.div_div_eq_div_mul]
  obtain ⟨x, hx⟩ : ∃ x, lo / 2 ^ h = x := ⟨_, rfl⟩
  unfold subL at e ⊢
  rw [hd, hx, hp] at e
  rw [hx]
  constructor
  · intro hm
    have e1 : x / 2 * (2 ^ h * 2) = x * 2 ^ h := by
      have : x = x / 2 * 2 := by omega
      conv => rhs; rw [this]
      rw [Nat.mul_assoc, Nat.mul_comm 2]
    rw [e1] at e
    have h9 := congrArg (List.take (2 ^ h)) e
    rw [List.take_left' h0, List.take_take, Nat.min_eq_left (by omega)] at h9
    exact h9
  · intro hm
    have e1 : x / 2 * (2 ^ h * 2) + 2 ^ h = x * 2 ^ h := by
      have : x = x / 2 * 2 + 1 := by omega
      conv => rhs; rw [this]
      rw [Nat.add_mul, Nat.one_mul, Nat.mul_assoc, Nat.mul_comm 2]
    have h9 := congrArg (List.drop (2 ^ h)) e
    rw [List.drop_left' h0, List.drop_take, List.drop_drop] at h9
    rw [h9, e1]
    congr 1
    omega
theorem subL_all {L : List (List Nat)} {lo h : Nat} (hd : 2 ^ h ∣ lo) : subL L lo h = (L.drop lo).take (2 ^ h) := by
  unfold subL
  rw [Nat.div_mul_cancel hd]
theorem leaves_peak {A B : List Pk} {p : Pk} {lo : Nat} (ha : (leavesK A).length = lo / 2 ^ p.h * 2 ^ p.h) (hp : p.l.length = 2 ^ p.h) : p.l = subL (leavesK (A ++ p :: B)) lo p.h := by
  unfold subL
  have e : leavesK (A ++ p :: B) = leavesK A ++ (p.l ++ leavesK B) := by rw [leavesK_app]; simp [leavesK]
  rw [e, ← ha, List.drop_left, ← hp, List.take_left]
end Go.Proofs.YtbljofojeagdkaaDoor
