import Derived.Test.YtecadmldnjlibaaDoorMTMath
import Derived.Test.YtecadmldnjlibaaDoorTopA
import Derived.Test.YtecadmldnjlibaaDoorTopB
import Derived.Test.YtecadmldnjlibaaDoorTopC
import Derived.Test.YtecadmldnjlibaaDoorSSt
import Derived.Deep.AppendLies
import Derived.Laws.MakeOwn
import Derived.Deep.DeepAppendRoom
import Derived.ArgAppend
import Derived.Test.YtecadmldnjlibaaDoorQTail
import Derived.Test.YtecadmldnjlibaaDoorQKeep
import Derived.Test.YtecadmldnjlibaaDoorRowz
import Derived.Deep.RegionHeld3
namespace Go.Proofs.YtecadmldnjlibaaDoor
set_option linter.unusedVariables false
set_option linter.unusedSimpArgs false

theorem belT_half {n c : Nat} (h2 : 2 ≤ n) (hn : n ≤ 2 ^ (c + 1)) : belT n ≤ 2 ^ c ∧ n - belT n ≤ 2 ^ c := by
  have h := belT_lt h2
  have h1 : belT n ≤ 2 ^ c := by
    unfold belT
    refine Nat.pow_le_pow_right (by omega) ?_
    have := (Nat.log2_lt (n := n - 1) (k := c + 1) (by omega)).2 (by omega)
    omega
  exact ⟨h1, by omega⟩
/-- The ranges of an inclusion proof, from the leaf up. -/
def pathF (i : Nat) : Nat → Nat → Nat → List (Nat × Nat)
  | 0, _, _ => []
  | c + 1, lo, hi => if hi - lo ≤ 1 then [] else if i < lo + belT (hi - lo) then pathF i c lo (lo + belT (hi - lo)) ++ [(lo + belT (hi - lo), hi)] else pathF i c (lo + belT (hi - lo)) hi ++ [(lo, lo + belT (hi - lo))]
theorem pathF_one (i c : Nat) {lo hi : Nat} (h : hi - lo ≤ 1) : pathF i c lo hi = [] := by
  cases c with
  | zero => rfl
  | succ c => rw [pathF, if_pos h]
theorem pathF_l {i c lo hi : Nat} (h : ¬ hi - lo ≤ 1) (hi' : i < lo + belT (hi - lo)) : pathF i (c + 1) lo hi = pathF i c lo (lo + belT (hi - lo)) ++ [(lo + belT (hi - lo), hi)] := by
  rw [pathF, if_neg h, if_pos hi']
theorem pathF_r {i c lo hi : Nat} (h : ¬ hi - lo ≤ 1) (hi' : ¬ i < lo + belT (hi - lo)) : pathF i (c + 1) lo hi = pathF i c (lo + belT (hi - lo)) hi ++ [(lo, lo + belT (hi - lo))] := by
  rw [pathF, if_neg h, if_neg hi']
theorem pathF_len (i : Nat) : ∀ (c lo hi : Nat), (pathF i c lo hi).length ≤ c
  | 0, _, _ => Nat.le_refl _
  | c + 1, lo, hi => by
    by_cases h : hi - lo ≤ 1
    · rw [pathF_one i _ h]; simp
    · by_cases hi' : i < lo + belT (hi - lo)
      · rw [pathF_l h hi', List.length_append]; have := pathF_len i c lo (lo + belT (hi - lo)); simp; omega
      · rw [pathF_r h hi', List.length_append]; have := pathF_len i c (lo + belT (hi - lo)) hi; simp; omega
theorem pathF_in (i : Nat) : ∀ (c lo hi : Nat), ∀ s ∈ pathF i c lo hi, lo ≤ s.1 ∧ s.1 < s.2 ∧ s.2 ≤ hi
  | 0, _, _, s, hs => by simp [pathF] at hs
  | c + 1, lo, hi, s, hs => by
    by_cases h : hi - lo ≤ 1
    · rw [pathF_one i _ h] at hs; simp at hs
    · have hb := belT_lt (n := hi - lo) (by omega)
      by_cases hi' : i < lo + belT (hi - lo)
      · rw [pathF_l h hi', List.mem_append, List.mem_singleton] at hs
        rcases hs with hs | rfl
        · have := pathF_in i c _ _ s hs; omega
        · show lo ≤ lo + belT (hi - lo) ∧ lo + belT (hi - lo) < hi ∧ hi ≤ hi
          omega
      · rw [pathF_r h hi', List.mem_append, List.mem_singleton] at hs
        rcases hs with hs | rfl
        · have := pathF_in i c _ _ s hs; omega
        · show lo ≤ lo ∧ lo < lo + belT (hi - lo) ∧ lo + belT (hi - lo) ≤ hi
          omega
theorem pathF_fuel (i : Nat) : ∀ (c lo hi : Nat), hi - lo ≤ 2 ^ c → pathF i (c + 1) lo hi = pathF i c lo hi
  | 0, lo, hi, h => by rw [pathF_one i _ (by simpa using h), pathF_one i _ (by simpa using h)]
  | c + 1, lo, hi, h => by
    by_cases h1 : hi - lo ≤ 1
    · rw [pathF_one i _ h1, pathF_one i _ h1]
    · have hb := belT_half (n := hi - lo) (c := c) (by omega) h
      have hb2 := belT_lt (n := hi - lo) (by omega)
      by_cases hi' : i < lo + belT (hi - lo)
      · rw [pathF_l h1 hi', pathF_l h1 hi', pathF_fuel i c _ _ (by omega)]
      · rw [pathF_r h1 hi', pathF_r h1 hi', pathF_fuel i c _ _ (by omega)]
/-- The brother's number of the node on the way at a height. -/
def broN (i h : Nat) : Nat := if i / 2 ^ h % 2 = 0 then i / 2 ^ h + 1 else i / 2 ^ h - 1
def broS (N i h : Nat) : Option (Nat × Nat) := if broN i h * 2 ^ h < N then some (broN i h * 2 ^ h, min ((broN i h + 1) * 2 ^ h) N) else none
def levs (N i c : Nat) : List (Nat × Nat) := (List.range c).filterMap (broS N i)
theorem levs_succ (N i c : Nat) : levs N i (c + 1) = levs N i c ++ (broS N i c).toList := by
  unfold levs
  rw [List.range_succ, List.filterMap_append]
  cases h : broS N i c <;> simp [List.filterMap_cons, h]
/-- From above as from below. -/
theorem path_levs (N i : Nat) : ∀ (c lo hi : Nat), lo ≤ i → i < hi → 2 ^ c ∣ lo → hi - lo ≤ 2 ^ c → hi ≤ N → (hi = N ∨ hi - lo = 2 ^ c) → pathF i c lo hi = levs N i c
  | 0, lo, hi, _, _, _, _, _, _ => rfl
  | c + 1, lo, hi, h1, h2, h3, h4, h5, h6 => by
    obtain ⟨q, rfl⟩ := h3
    have hp : 1 ≤ 2 ^ c := Nat.one_le_two_pow
    have hps : 2 ^ (c + 1) = 2 * 2 ^ c := by rw [Nat.pow_succ]; omega
    have hlo : 2 ^ (c + 1) * q = 2 ^ c * (2 * q) := by rw [hps, Nat.mul_assoc, Nat.mul_left_comm]
    rw [levs_succ]
    by_cases hn : hi - 2 ^ (c + 1) * q ≤ 2 ^ c
    · have hN : hi = N := by omega
      rw [pathF_fuel i c _ _ hn, path_levs N i c _ hi h1 h2 ⟨2 * q, hlo⟩ hn h5 (Or.inl hN)]
      have hd : i / 2 ^ c = 2 * q := by
        obtain ⟨r, hr⟩ : ∃ r, i = 2 ^ c * (2 * q) + r := ⟨i - 2 ^ c * (2 * q), by omega⟩
        rw [hr, Nat.mul_add_div (by omega), Nat.div_eq_of_lt (by omega)]; rfl
      have hb : broN i c * 2 ^ c = 2 ^ c * (2 * q) + 2 ^ c := by
        unfold broN
        rw [hd, if_pos (by omega), Nat.mul_comm, Nat.mul_add, Nat.mul_one]
      have : broS N i c = none := by
        unfold broS
        rw [if_neg (by rw [hb]; omega)]
      rw [this]; simp
    · have hbel : belT (hi - 2 ^ (c + 1) * q) = 2 ^ c := by
        unfold belT
        congr 1
        rw [Nat.log2_eq_iff (by omega)]
        omega
      have hge : ¬ hi - 2 ^ (c + 1) * q ≤ 1 := by omega
      by_cases hm : i < 2 ^ (c + 1) * q + 2 ^ c
      · rw [pathF_l hge (by rw [hbel]; exact hm), hbel, path_levs N i c _ _ h1 hm ⟨2 * q, hlo⟩ (by omega) (by omega) (Or.inr (by omega))]
        have hd : i / 2 ^ c = 2 * q := by
          obtain ⟨r, hr⟩ : ∃ r, i = 2 ^ c * (2 * q) + r := ⟨i - 2 ^ c * (2 * q), by omega⟩
          rw [hr, Nat.mul_add_div (by omega), Nat.div_eq_of_lt (by omega)]; rfl
        have hbn : broN i c = 2 * q + 1 := by unfold broN; rw [hd, if_pos (by omega)]
        have e1 : (2 * q + 1) * 2 ^ c = 2 ^ c * (2 * q) + 2 ^ c := by rw [Nat.mul_comm, Nat.mul_add, Nat.mul_one]
        have e2 : (2 * q + 1 + 1) * 2 ^ c = 2 ^ c * (2 * q) + 2 * 2 ^ c := by rw [Nat.add_assoc, Nat.add_mul, Nat.mul_comm (2 * q)]
        unfold broS
        rw [hbn, e1, e2, if_pos (by omega), ← hlo, Nat.min_def]
        split
        · have : hi = 2 ^ (c + 1) * q + 2 * 2 ^ c := by omega
          simp [this]
        · have : hi = N := by omega
          simp [this]
      · rw [pathF_r hge (by rw [hbel]; exact hm), hbel, path_levs N i c _ _ (by omega) h2 ⟨2 * q + 1, by rw [hlo, Nat.mul_add, Nat.mul_one]⟩ (by omega) h5 (by omega)]
        have hd : i / 2 ^ c = 2 * q + 1 := by
          obtain ⟨r, hr⟩ : ∃ r, i = 2 ^ c * (2 * q + 1) + r := ⟨i - 2 ^ c * (2 * q + 1), by rw [Nat.mul_add]; omega⟩
          have : r < 2 ^ c := by rw [Nat.mul_add] at hr; omega
          rw [hr, Nat.mul_add_div (by omega), Nat.div_eq_of_lt this]
        have hbn : broN i c = 2 * q := by unfold broN; rw [hd, if_neg (by omega), Nat.add_sub_cancel]
        have e1 : 2 * q * 2 ^ c = 2 ^ c * (2 * q) := by rw [Nat.mul_comm]
        have e2 : (2 * q + 1) * 2 ^ c = 2 ^ c * (2 * q) + 2 ^ c := by rw [Nat.mul_comm, Nat.mul_add, Nat.mul_one]
        unfold broS
        rw [hbn, e1, e2, if_pos (by omega), ← hlo, Nat.min_eq_left (by omega)]
        simp
theorem path_all {N i c : Nat} (hi : i < N) (hN : N ≤ 2 ^ c) : pathF i c 0 N = levs N i c := path_levs N i c 0 N (by omega) hi (Nat.dvd_zero _) (by omega) (Nat.le_refl _) (Or.inl rfl)
/-- How many brothers the node i of n has on its way up. -/
def stL : Nat → Nat → Nat → Nat
  | 0, _, _ => 0
  | c + 1, i, n => if n ≤ 1 then 0 else (if i % 2 = 1 ∨ i + 1 < n then 1 else 0) + stL c (i / 2) (n / 2 + n % 2)
theorem bro_up (N i h : Nat) : (broN i (h + 1) * 2 ^ (h + 1) < N) = (broN (i / 2) h * 2 ^ h < N / 2 + N % 2) := by
  have e : i / 2 ^ (h + 1) = i / 2 / 2 ^ h := by rw [Nat.pow_succ, Nat.mul_comm, Nat.div_div_eq_div_mul]
  have e2 : broN i (h + 1) = broN (i / 2) h := by unfold broN; rw [e]
  rw [e2, Nat.pow_succ, ← Nat.mul_assoc]
  generalize broN (i / 2) h * 2 ^ h = y
  apply propext
  omega
theorem levs_len (N i c : Nat) : (levs N i c).length = ((List.range c).filter (fun h => decide (broN i h * 2 ^ h < N))).length := by
  unfold levs
  induction List.range c with
  | nil => rfl
  | cons h r ih =>
    rw [List.filterMap_cons, List.filter_cons]
    by_cases hb : broN i h * 2 ^ h < N
    · have hs : broS N i h = some (broN i h * 2 ^ h, min ((broN i h + 1) * 2 ^ h) N) := by unfold broS; rw [if_pos hb]
      simp only [hs, decide_eq_true hb, List.length_cons, if_true, ih]
    · have hs : broS N i h = none := by unfold broS; rw [if_neg hb]
      simp only [hs, decide_eq_false hb, Bool.false_eq_true, if_false, ih]
theorem levs_steps : ∀ (c i N : Nat), i < N → N ≤ 2 ^ c → (levs N i c).length = stL c i N
  | 0, i, N, _, _ => rfl
  | c + 1, i, N, h1, h2 => by
    have hps : 2 ^ (c + 1) = 2 * 2 ^ c := by rw [Nat.pow_succ]; omega
    have ih := levs_steps c (i / 2) (N / 2 + N % 2) (by omega) (by omega)
    rw [levs_len] at ih ⊢
    rw [List.range_succ_eq_map, List.filter_cons, List.filter_map, stL]
    have e : ((fun h => decide (broN i h * 2 ^ h < N)) ∘ Nat.succ) = (fun h => decide (broN (i / 2) h * 2 ^ h < N / 2 + N % 2)) := by
      funext h
      simp only [Function.comp, Nat.succ_eq_add_one, bro_up N i h]
    have e0 : (broN i 0 * 2 ^ 0 < N) ↔ (i % 2 = 1 ∨ i + 1 < N) := by
      unfold broN
      rw [Nat.pow_zero, Nat.div_one, Nat.mul_one]
      split <;> omega
    by_cases hN : N ≤ 1
    · have hi : i = 0 := by omega
      subst hi
      rw [if_pos hN, e, decide_eq_false (by rw [e0]; omega)]
      have hN1 : N / 2 + N % 2 = 1 := by omega
      have : ∀ h ∈ List.range c, ¬ (decide (broN (0 / 2) h * 2 ^ h < N / 2 + N % 2) = true) := by
        intro h _
        rw [hN1]
        have hp : 1 ≤ 2 ^ h := Nat.one_le_two_pow
        simp [broN]
      rw [List.filter_eq_nil_iff.2 this]
      rfl
    · rw [if_neg hN, e]
      by_cases hb : i % 2 = 1 ∨ i + 1 < N
      · rw [decide_eq_true (e0.2 hb), if_pos rfl, if_pos hb, List.length_cons, List.length_map, ih]; omega
      · rw [decide_eq_false (fun h => hb (e0.1 h)), if_neg hb]
        simp only [Bool.false_eq_true, if_false, List.length_map]
        rw [ih]; omega
/-- The ranges of a consistency proof. -/
def seamF (m : Nat) : Nat → Nat → Nat → Bool → List (Nat × Nat)
  | 0, lo, hi, wh => if wh then [] else [(lo, hi)]
  | c + 1, lo, hi, wh => if m = hi then (if wh then [] else [(lo, hi)]) else if m ≤ lo + belT (hi - lo) then seamF m c lo (lo + belT (hi - lo)) wh ++ [(lo + belT (hi - lo), hi)] else seamF m c (lo + belT (hi - lo)) hi false ++ [(lo, lo + belT (hi - lo))]
theorem seamF_end {m c lo hi : Nat} {wh : Bool} (h : m = hi) : seamF m c lo hi wh = if wh then [] else [(lo, hi)] := by
  cases c with
  | zero => rfl
  | succ c => rw [seamF, if_pos h]
theorem seamF_l {m c lo hi : Nat} {wh : Bool} (h : ¬ m = hi) (h2 : m ≤ lo + belT (hi - lo)) : seamF m (c + 1) lo hi wh = seamF m c lo (lo + belT (hi - lo)) wh ++ [(lo + belT (hi - lo), hi)] := by
  rw [seamF, if_neg h, if_pos h2]
theorem seamF_r {m c lo hi : Nat} {wh : Bool} (h : ¬ m = hi) (h2 : ¬ m ≤ lo + belT (hi - lo)) : seamF m (c + 1) lo hi wh = seamF m c (lo + belT (hi - lo)) hi false ++ [(lo, lo + belT (hi - lo))] := by
  rw [seamF, if_neg h, if_neg h2]
theorem seamF_len (m : Nat) : ∀ (c lo hi : Nat) (wh : Bool), (seamF m c lo hi wh).length ≤ c + 1
  | 0, lo, hi, wh => by unfold seamF; split <;> simp
  | c + 1, lo, hi, wh => by
    by_cases h : m = hi
    · rw [seamF_end h]; split <;> simp
    · by_cases h2 : m ≤ lo + belT (hi - lo)
      · rw [seamF_l h h2, List.length_append]; have := seamF_len m c lo (lo + belT (hi - lo)) wh; simp; omega
      · rw [seamF_r h h2, List.length_append]; have := seamF_len m c (lo + belT (hi - lo)) hi false; simp; omega
theorem seamF_in (m : Nat) : ∀ (c lo hi : Nat) (wh : Bool), lo < m → m ≤ hi → hi - lo ≤ 2 ^ c → ∀ s ∈ seamF m c lo hi wh, lo ≤ s.1 ∧ s.1 < s.2 ∧ s.2 ≤ hi
  | 0, lo, hi, wh, h1, h2, h3, s, hs => by
    unfold seamF at hs
    split at hs
    · simp at hs
    · rw [List.mem_singleton] at hs; subst hs; simp; omega
  | c + 1, lo, hi, wh, h1, h2, h3, s, hs => by
    by_cases h : m = hi
    · rw [seamF_end h] at hs
      split at hs
      · simp at hs
      · rw [List.mem_singleton] at hs; subst hs; simp; omega
    · have hb := belT_lt (n := hi - lo) (by omega)
      have hb2 := belT_half (n := hi - lo) (c := c) (by omega) h3
      by_cases h4 : m ≤ lo + belT (hi - lo)
      · rw [seamF_l h h4, List.mem_append, List.mem_singleton] at hs
        rcases hs with hs | rfl
        · have := seamF_in m c _ _ _ h1 h4 (by omega) s hs; omega
        · show lo ≤ lo + belT (hi - lo) ∧ lo + belT (hi - lo) < hi ∧ hi ≤ hi
          omega
      · rw [seamF_r h h4, List.mem_append, List.mem_singleton] at hs
        rcases hs with hs | rfl
        · have := seamF_in m c _ _ _ (by omega) h2 (by omega) s hs; omega
        · show lo ≤ lo ∧ lo < lo + belT (hi - lo) ∧ lo + belT (hi - lo) ≤ hi
          omega
def sinL : Nat → Nat → Nat → Bool → Nat
  | 0, _, _, wh => if wh then 0 else 1
  | c + 1, m, n, wh => if m = n then (if wh then 0 else 1) else 1 + (if m ≤ belT n then sinL c m (belT n) wh else sinL c (m - belT n) (n - belT n) false)
theorem seam_sin (m : Nat) : ∀ (c lo hi : Nat) (wh : Bool), lo < m → m ≤ hi → hi - lo ≤ 2 ^ c → (seamF m c lo hi wh).length = sinL c (m - lo) (hi - lo) wh
  | 0, lo, hi, wh, _, _, _ => by unfold seamF sinL; split <;> rfl
  | c + 1, lo, hi, wh, h1, h2, h3 => by
    by_cases h : m = hi
    · rw [seamF_end h]
      unfold sinL
      rw [if_pos (show m - lo = hi - lo by omega)]
      cases wh <;> rfl
    · have hb := belT_lt (n := hi - lo) (by omega)
      have hb2 := belT_half (n := hi - lo) (c := c) (by omega) h3
      rw [sinL, if_neg (by omega)]
      by_cases h4 : m ≤ lo + belT (hi - lo)
      · rw [seamF_l h h4, List.length_append, seam_sin m c _ _ _ h1 h4 (by omega), if_pos (by omega), show lo + belT (hi - lo) - lo = belT (hi - lo) by omega]
        simp; omega
      · rw [seamF_r h h4, List.length_append, seam_sin m c _ _ _ (by omega) h2 (by omega), if_neg (by omega), show m - (lo + belT (hi - lo)) = m - lo - belT (hi - lo) by omega, show hi - (lo + belT (hi - lo)) = hi - lo - belT (hi - lo) by omega]
        simp; omega
end Go.Proofs.YtecadmldnjlibaaDoor
namespace Go.Proofs.YtecadmldnjlibaaDoor
open Go.RowKit Go.BigFrame
set_option linter.unusedVariables false
set_option linter.unusedSimpArgs false

theorem wrM (y : Int) : IntKind.u64.wrap y = y % 18446744073709551616 := by simp [IntKind.wrap, IntKind.signed, IntKind.bits]

set_option maxRecDepth 100000 in
set_option maxHeartbeats 1000000 in
theorem msplit_any (lo hi : Nat) (w : World) (h2 : 2 ≤ hi - lo) (hn : hi < 18446744073709551616) :
    Calls Tryd.prog 55 #[.int .u64 lo, .int .u64 hi] w fun e w' => e = .returned (.int .u64 ((lo + belT (hi - lo) : Nat) : Int)) ∧ Kept [] w w' := by
  obtain ⟨n, hn1⟩ : ∃ n, hi - lo = n := ⟨_, rfl⟩
  rw [hn1] at h2 ⊢
  have hb := bitLen_log (n - 1) (by omega) (by omega)
  have hl : (n - 1).log2 < 64 := (Nat.log2_lt (by omega)).2 (by omega)
  have hlt := belT_lt h2
  obtain ⟨S, hS⟩ : ∃ S, belT n = S := ⟨_, rfl⟩
  rw [hS] at hlt ⊢
  unfold belT at hS
  have hsub : IntKind.u64.wrap ((hi : Int) - (lo : Int)) = (n : Int) := by rw [wrM]; omega
  have hsub1 : IntKind.u64.wrap ((n : Int) - 1) = ((n - 1 : Nat) : Int) := by rw [wrM]; omega
  have hadd : IntKind.u64.wrap ((lo : Int) + (S : Int)) = ((lo + S : Nat) : Int) := by rw [wrM]; omega
  have HLE := hide (len64_any (n - 1) w (by omega))
  rw [hb] at HLE
  obtain ⟨m, hm⟩ : ∃ m, (n - 1).log2 = m := ⟨_, rfl⟩
  rw [hm] at hl HLE hS
  obtain ⟨n1, hn2⟩ : ∃ n1, n - 1 = n1 := ⟨_, rfl⟩
  rw [hn2] at hsub1 HLE
  obtain ⟨T, hT⟩ : ∃ T, lo + S = T := ⟨_, rfl⟩
  rw [hT] at hadd ⊢
  clear hm hb hn1 hn2 hT h2 hlt hn
  have HP := hide hS
  have q2 : wrap64 (((m + 1 : Nat) : Int) - 1) = (m : Int) := by unfold wrap64; omega
  clear hS
  go_enter Tryd.func55, Tryd.ntmps55
  go_wp2_with (first | simp only [hsub] | simp only [hsub1])
  refine (unhide HLE).mono ?_
  rintro e w1 ⟨rfl, k1⟩
  have HK1 := hide k1
  clear k1
  go_wp2_with (first | simp only [hadd] | (refine wpList_shl1 rfl 49 3 (.tmp 11) rfl m hl (by simp [Act.eval, q2]) ?_; rw [unhide HP]))
  go_ret
  exact ⟨rfl, unhide HK1⟩

theorem wp_callD {o : Oper} {a : Act} {w : World} {K : Act → World → Prop} {Q : Exit → Act → World → Prop} {f : FuncId} {c : Operand} {xs : Array Operand} {ts : Array TypeId} (ho : o.op = .call { callee := .value c, args := xs, argTypes := ts })
    (cap : Array Value) (hc0 : a.eval c = .func (.func f) #[] cap)
    (hcl : ∀ args W, (callFunc f args).run Tryd.prog W = .ok (.enter f args) W) (us : List Value) (he : xs.toList.map a.eval = us) {R : Ending → World → Prop}
    (hc : Calls Tryd.prog f (us.toArray ++ cap) w R) (h : ∀ e w', R e w' → ∃ v, e = .returned v ∧ K (a.put o.dst v) w') : o.wp Tryd.prog a w K Q := by
  have he2 : xs.map a.eval = us.toArray := by rw [← he]; cases xs; simp only [List.map_toArray]
  unfold Oper.wp execOp
  simp only [ho]
  simp only [resolve, invoke, hc0, he2, Sem.run_bind, Sem.run_pure, Result.andThen_ok, hcl]
  simp [Deferred.ofValue, hcl, go_sem]
  refine hc.mono ?_
  intro e w2 h2
  obtain ⟨v, rfl, h3⟩ := h e w2 h2
  exact h3

def cellsS (ss : List (Nat × Nat)) : List Value := ss.flatMap fun s => [.int .u64 (s.1 : Int), .int .u64 (s.2 : Int)]
theorem cellsS_app (a b : List (Nat × Nat)) : cellsS (a ++ b) = cellsS a ++ cellsS b := by simp [cellsS]
theorem cellsS_get : ∀ (ss : List (Nat × Nat)) (i : Nat) (h : i < ss.length), (cellsS ss)[2 * i]? = some (.int .u64 (ss[i].1 : Int)) ∧ (cellsS ss)[2 * i + 1]? = some (.int .u64 (ss[i].2 : Int))
  | [], i, h => by simp at h
  | s :: r, 0, h => ⟨rfl, rfl⟩
  | s :: r, i + 1, h => by
    have := cellsS_get r i (by simpa using h)
    have e : cellsS (s :: r) = [.int .u64 (s.1 : Int), .int .u64 (s.2 : Int)] ++ cellsS r := by simp [cellsS]
    rw [e, show 2 * (i + 1) = 2 + 2 * i by omega, show 2 + 2 * i + 1 = 2 + (2 * i + 1) by omega]
    rw [List.getElem?_append_right (by simp), List.getElem?_append_right (by simp)]
    simpa [Nat.add_sub_cancel_left] using this
theorem Tryd.infoS : (Tryd.prog.info? 92).map (fun i => (i.zero, i.size, i.bytes)) = some (some (.agg #[.int .u64 0, .int .u64 0]), 2, 16) := by kernel_rfl
/-- One range more. -/
theorem pushSp (w : World) (base : Nat) (v : Value) (ss : List (Nat × Nat)) (x y : Nat) (H : Nat) (h : w.ownsRow base 92 2 v ss.length (cellsS ss)) (hnew : w.heap[H]? = some (.cells #[.int .u64 (x : Int), .int .u64 (y : Int)] 92 (0, 0))) (hl : ss.length + 1 ≤ 1000000000000) (hb : base ≤ w.heap.size) :
    ∃ g cap w1, (Builtin.append_ #[80, 80] 80 #[v, .slice (some ⟨H, 0, none⟩) 1 1]).run Tryd.prog w = .ok (.slice (some ⟨g, 0, none⟩) (ss.length + 1) cap) w1 ∧
      w1.ownsRow base 92 2 (.slice (some ⟨g, 0, none⟩) (ss.length + 1) cap) (ss ++ [(x, y)]).length (cellsS (ss ++ [(x, y)])) ∧ w.grownBy w1 v.ownBlock := by
  obtain ⟨i0, hi, hz0, hz1, hz2⟩ := info_parts Tryd.infoS
  obtain ⟨g, cap, w1, hr, hown, hgrow, hat, hlt⟩ := run_append_lies (P := Tryd.prog) w 80 80 base 92 i0 (.agg #[.int .u64 0, .int .u64 0]) 2 16 Tryd.underlying80 hi hz0 hz1 hz2 rfl (by decide)
    v ss.length (cellsS ss) h ⟨H, 0, none⟩ 1 1 [.int .u64 (x : Int), .int .u64 (y : Int)] rfl (World.news_of_block hnew) (by intro u hu; simp at hu; rcases hu with rfl | rfl <;> rfl) (by decide) (by unfold maxLen; omega) (by omega) hb _ rfl
  refine ⟨g, cap, w1, hr, ?_, hgrow⟩
  rw [cellsS_app, List.length_append]
  exact hown
theorem wpList_pushSp {ops : Array Oper} {rest : List Oper} {o : Oper} {a : Act} {Q : Exit → Act → World → Prop} (hgd : o.guard = none) (s x : Operand)
    (ho : o.op = .call { callee := .builtin .append, args := #[s, x], argTypes := #[80, 80] }) (hty : o.type = 80)
    (w : World) (base : Nat) (v : Value) (ss : List (Nat × Nat)) (p q : Nat) (H : Nat) (h : w.ownsRow base 92 2 v ss.length (cellsS ss)) (hnew : w.heap[H]? = some (.cells #[.int .u64 (p : Int), .int .u64 (q : Int)] 92 (0, 0))) (hl : ss.length + 1 ≤ 1000000000000) (hb : base ≤ w.heap.size)
    (hs : a.eval s = v) (hx : a.eval x = .slice (some ⟨H, 0, none⟩) 1 1)
    (hK : ∀ g cap w1, Hid (w1.ownsRow base 92 2 (.slice (some ⟨g, 0, none⟩) (ss.length + 1) cap) (ss ++ [(p, q)]).length (cellsS (ss ++ [(p, q)]))) → Hid (w.grownBy w1 v.ownBlock) →
      wpList Tryd.prog ops Q rest (a.put o.dst (.slice (some ⟨g, 0, none⟩) (ss.length + 1) cap)) w1) :
    wpList Tryd.prog ops Q (o :: rest) a w := by
  obtain ⟨g, cap, w1, hrun, h2, h3⟩ := pushSp w base v ss p q H h hnew hl hb
  refine wpList_plain hgd fun K hK' => ?_
  unfold Oper.wp execOp
  simp only [ho, hty, resolve, invoke, builtin, Sem.run_bind, Sem.run_pure, Result.andThen_ok, List.map_toArray, List.map_cons, List.map_nil, hs, hx, hrun]
  exact hK' _ _ (hK g cap w1 h2 h3)

/-- The list of ranges behind a captured variable. -/
structure Lst (W0 : World) (bl : Nat) (ss : List (Nat × Nat)) (w : World) (v : Value) : Prop where
  kept : Kept [bl] W0 w
  row : w.heap[bl]? = some (.cells #[v] 80 (0, 0))
  own : w.ownsRow W0.heap.size 92 2 v ss.length (cellsS ss)
  lt : bl < W0.heap.size
theorem Lst.old {W0 w w' : World} {bl : Nat} {ss : List (Nat × Nat)} {v : Value} (h : Lst W0 bl ss w v) (k : Kept [] w w') : Lst W0 bl ss w' v :=
  ⟨h.kept.trans k (by simp), k.heap h.row (by simp), k.owns h.own (by simp), h.lt⟩
theorem Lst.push {W0 w w1 : World} {bl : Nat} {ss : List (Nat × Nat)} {v u : Value} {x y : Nat} (h : Lst W0 bl ss w v) {ss' : List (Nat × Nat)} (own : w1.ownsRow W0.heap.size 92 2 u ss'.length (cellsS ss')) (gr : w.grownBy w1 v.ownBlock) :
    Lst W0 bl ss' (w1.setCell ⟨bl, 0, none⟩ u) u ∧ w1.cell? ⟨bl, 0, none⟩ = some v ∧ w1.heap[bl]? = some (.cells #[v] 80 (0, 0)) := by
  have hv : ∀ k, v.ownBlock = some k → k ≠ bl := by
    intro k hk e
    have := (h.own.lt k hk).1
    have := h.lt
    omega
  have k1 : Kept v.ownBlock.toList w w1 := (Kept.refl _ w).grown gr (by intro k hk; left; simp [hk])
  have r1 : w1.heap[bl]? = some (.cells #[v] 80 (0, 0)) := k1.heap h.row (by intro hm; simp at hm; exact hv bl hm rfl)
  have k3 : Kept [bl] W0 w1 := h.kept.grown gr (by intro k hk; right; exact (h.own.lt k hk).1)
  have k4 := (Kept.refl [bl] w1).setCell (p := ⟨bl, 0, none⟩) (Or.inl (by simp)) u
  refine ⟨⟨k3.setCell (p := ⟨bl, 0, none⟩) (Or.inl (by simp)) u, ?_, ?_, h.lt⟩, ?_, r1⟩
  · have h9 := heap_setCell_same w1 bl 0 _ 80 u r1
    simpa using h9
  · refine k4.owns own ?_
    intro k hk
    have := (own.lt k hk).1
    have := h.lt
    simp
    omega
  · have h9 := cell_of_row _ _ 0 _ _ _ r1
    simpa using h9
end Go.Proofs.YtecadmldnjlibaaDoor
namespace Go.Proofs.YtecadmldnjlibaaDoor
open Go.RowKit Go.BigFrame
set_option linter.unusedVariables false
set_option linter.unusedSimpArgs false

def pathV (bi bc bl : Nat) : Value := .func (.func 54) #[] #[.pointer (some ⟨bi, 0, none⟩), .pointer (some ⟨bc, 0, none⟩), .pointer (some ⟨bl, 0, none⟩)]
structure PathW (bi bc i : Nat) (bl : Nat) (W0 w : World) : Prop where
  hc : w.heap[bc]? = some (.cells #[pathV bi bc bl] 93 (0, 0))
  hi : w.heap[bi]? = some (.cells #[.int .u64 i] 49 (0, 0))
  lt : bc < W0.heap.size ∧ bi < W0.heap.size
  ne : bc ≠ bl ∧ bi ≠ bl
theorem PathW.kept {bi bc i bl : Nat} {W0 w w' : World} (h : PathW bi bc i bl W0 w) (hl : W0.heap.size ≤ w.heap.size) {L : List Nat} (k : Kept L w w') (hL : ∀ b ∈ L, b = bl ∨ W0.heap.size ≤ b) : PathW bi bc i bl W0 w' := by
  refine ⟨k.heap h.hc ?_, k.heap h.hi ?_, h.lt, h.ne⟩
  · intro hm; rcases hL _ hm with e | e
    · exact h.ne.1 e
    · have := h.lt.1; omega
  · intro hm; rcases hL _ hm with e | e
    · exact h.ne.2 e
    · have := h.lt.2; omega

theorem Tryd.callPath : ∀ args W, (callFunc 54 args).run Tryd.prog W = .ok (.enter 54 args) W := by
  intro args W
  exact Tryd.call54 args W

set_option maxRecDepth 100000 in
set_option maxHeartbeats 1000000 in
theorem pathC_any (W0 : World) (bi bc bl i : Nat) : ∀ (c lo hi : Nat) (ss : List (Nat × Nat)) (v : Value) (w : World), lo < hi → hi - lo ≤ 2 ^ c → hi < 18446744073709551616 → ss.length + c ≤ 1000000 → Lst W0 bl ss w v → PathW bi bc i bl W0 w →
    Calls Tryd.prog 54 #[.int .u64 lo, .int .u64 hi, .pointer (some ⟨bi, 0, none⟩), .pointer (some ⟨bc, 0, none⟩), .pointer (some ⟨bl, 0, none⟩)] w fun e w' => e = .returned (.tuple #[]) ∧ ∃ u, Lst W0 bl (ss ++ pathF i c lo hi) w' u ∧ PathW bi bc i bl W0 w' := by
  intro c
  induction c with
  | zero =>
    intro lo hi ss v w h1 h2 h3 h4 HL HP
    have hsub : IntKind.u64.wrap ((hi : Int) - (lo : Int)) = 1 := by rw [wrM]; simp at h2; omega
    go_enter Tryd.func54, Tryd.ntmps54
    have HL := hide HL
    have HP := hide HP
    go_wp2_with (first | simp only [hsub])
    exact ⟨rfl, _, results_none rfl _ _ _, rfl, v, by rw [pathF, List.append_nil]; exact unhide HL, unhide HP⟩
  | succ c ih =>
    intro lo hi ss v w h1 h2 h3 h4 HL HP
    have HL := hide HL
    have HP := hide HP
    have HIH := hide ih
    have HS := hide h4
    clear ih h4
    by_cases hone : hi - lo ≤ 1
    · have hsub : IntKind.u64.wrap ((hi : Int) - (lo : Int)) = 1 := by rw [wrM]; omega
      clear h2
      go_enter Tryd.func54, Tryd.ntmps54
      go_wp2_with (first | simp only [hsub])
      exact ⟨rfl, _, results_none rfl _ _ _, rfl, v, by rw [pathF_one i _ hone, List.append_nil]; exact unhide HL, unhide HP⟩
    · have hsub : IntKind.u64.wrap ((hi : Int) - (lo : Int)) = ((hi - lo : Nat) : Int) := by rw [wrM]; omega
      have hne : ¬ ((hi - lo : Nat) : Int) = 1 := by omega
      have HSP := hide (msplit_any lo hi w (by omega) h3)
      have hb := belT_lt (n := hi - lo) (by omega)
      have hb2 := belT_half (n := hi - lo) (c := c) (by omega) h2
      have HPL := hide (fun h => pathF_l (i := i) (c := c) (lo := lo) (hi := hi) hone h)
      have HPR := hide (fun h => pathF_r (i := i) (c := c) (lo := lo) (hi := hi) hone h)
      obtain ⟨m, hm⟩ : ∃ m, lo + belT (hi - lo) = m := ⟨_, rfl⟩
      rw [hm] at HSP HPL HPR
      have hm1 : lo < m := by omega
      have hm2 : m < hi := by omega
      have HB := hide (by omega : m - lo ≤ 2 ^ c ∧ hi - m ≤ 2 ^ c)
      have HSZ := hide (unhide HL).kept.size
      obtain ⟨n, hn⟩ : ∃ n, hi - lo = n := ⟨_, rfl⟩
      rw [hn] at hsub hne
      clear hb hb2 hone h2 hm hn
      go_enter Tryd.func54, Tryd.ntmps54
      go_wp2_with (first | simp only [hsub])
      refine (unhide HSP).mono ?_
      rintro e w1 ⟨rfl, k1⟩
      have HL1 := hide ((unhide HL).old k1)
      have HP1 := hide ((unhide HP).kept (unhide HSZ) k1 (by simp))
      have HSZ1 := hide (unhide HL1).kept.size
      clear HL HP k1 HSP HSZ
      have ci := cell_of_row _ _ 0 _ _ _ (unhide HP1).hi
      have cc := cell_of_row _ _ 0 _ _ _ (unhide HP1).hc
      unfold pathV at cc
      simp at ci cc
      by_cases him : i < m
      · have him' : (i : Int) < (m : Int) := by omega
        have HR1 := hide (unhide HIH lo m ss v w1 (by omega) (unhide HB).1 (by omega) (by have := unhide HS; omega) (unhide HL1) (unhide HP1))
        have HSL := hide (by have := unhide HS; have := pathF_len i c lo m; rw [List.length_append]; omega : (ss ++ pathF i c lo m).length + 1 ≤ 1000000000000)
        have HEQ := hide (unhide HPL him)
        clear HIH HB HPL HPR
        go_wp2_with fail
        refine (unhide HR1).mono ?_
        rintro e w2 ⟨rfl, u, l2, p2⟩
        have HL2 := hide (l2.old ((Kept.refl [] w2).alloc (.cells #[.int .u64 (m : Int), .int .u64 (hi : Int)] 92)))
        have HP2 := hide (p2.kept l2.kept.size ((Kept.refl [] w2).alloc (.cells #[.int .u64 (m : Int), .int .u64 (hi : Int)] 92)) (by simp))
        have HN2 := hide (heap_alloc_new w2 (.cells #[.int .u64 (m : Int), .int .u64 (hi : Int)] 92))
        have cl := cell_of_row _ _ 0 _ _ _ l2.row
        simp at cl
        have HBB := hide (unhide HL2).kept.size
        clear l2 p2 HR1 HL1 HP1 ci cc HSZ1
        obtain ⟨ts, hts⟩ : ∃ ts, ss ++ pathF i c lo m = ts := ⟨_, rfl⟩
        rw [hts] at HL2 HSL
        have HTS := hide hts
        clear hts
        go_wp2_with ((at_builtin; refine wpList_pushSp rfl (.tmp 22) (.tmp 26) rfl rfl _ W0.heap.size u ts m hi w2.heap.size (unhide HL2).own (unhide HN2) (unhide HSL) (unhide HBB) rfl rfl ?_; intro g cap w3 HO3 HG3; have HLP := hide ((unhide HL2).push (x := m) (y := hi) (unhide HO3) (unhide HG3)); have cb := (unhide HLP).2.1; have zb := frozen_of_row _ _ 0 _ _ (unhide HLP).2.2; have HKW := hide ((Kept.refl u.ownBlock.toList (w2.alloc (.cells #[.int .u64 (m : Int), .int .u64 (hi : Int)] 92))).grown (unhide HG3) (by intro k hk; left; simp [hk])); clear HO3 HG3))
        refine ⟨rfl, _, results_none rfl _ _ _, rfl, _, by rw [unhide HEQ, ← List.append_assoc, unhide HTS]; exact (unhide HLP).1, ?_⟩
        refine ((unhide HP2).kept (unhide HBB) (unhide HKW) ?_).kept (Nat.le_trans (unhide HBB) (unhide HKW).size) ((Kept.refl [bl] w3).setCell (p := ⟨bl, 0, none⟩) (Or.inl (by simp)) _) ?_
        · intro b hb
          right
          exact ((unhide HL2).own.lt b (by simpa using hb)).1
        · intro b hb
          left
          simpa using hb
      · have him' : ¬ (i : Int) < (m : Int) := by omega
        have HR1 := hide (unhide HIH m hi ss v w1 (by omega) (unhide HB).2 (by omega) (by have := unhide HS; omega) (unhide HL1) (unhide HP1))
        have HSL := hide (by have := unhide HS; have := pathF_len i c m hi; rw [List.length_append]; omega : (ss ++ pathF i c m hi).length + 1 ≤ 1000000000000)
        have HEQ := hide (unhide HPR him)
        clear HIH HB HPL HPR
        go_wp2_with fail
        refine (unhide HR1).mono ?_
        rintro e w2 ⟨rfl, u, l2, p2⟩
        have HL2 := hide (l2.old ((Kept.refl [] w2).alloc (.cells #[.int .u64 (lo : Int), .int .u64 (m : Int)] 92)))
        have HP2 := hide (p2.kept l2.kept.size ((Kept.refl [] w2).alloc (.cells #[.int .u64 (lo : Int), .int .u64 (m : Int)] 92)) (by simp))
        have HN2 := hide (heap_alloc_new w2 (.cells #[.int .u64 (lo : Int), .int .u64 (m : Int)] 92))
        have cl := cell_of_row _ _ 0 _ _ _ l2.row
        simp at cl
        have HBB := hide (unhide HL2).kept.size
        clear l2 p2 HR1 HL1 HP1 ci cc HSZ1
        obtain ⟨ts, hts⟩ : ∃ ts, ss ++ pathF i c m hi = ts := ⟨_, rfl⟩
        rw [hts] at HL2 HSL
        have HTS := hide hts
        clear hts
        go_wp2_with ((at_builtin; refine wpList_pushSp rfl (.tmp 32) (.tmp 36) rfl rfl _ W0.heap.size u ts lo m w2.heap.size (unhide HL2).own (unhide HN2) (unhide HSL) (unhide HBB) rfl rfl ?_; intro g cap w3 HO3 HG3; have HLP := hide ((unhide HL2).push (x := lo) (y := m) (unhide HO3) (unhide HG3)); have cb := (unhide HLP).2.1; have zb := frozen_of_row _ _ 0 _ _ (unhide HLP).2.2; have HKW := hide ((Kept.refl u.ownBlock.toList (w2.alloc (.cells #[.int .u64 (lo : Int), .int .u64 (m : Int)] 92))).grown (unhide HG3) (by intro k hk; left; simp [hk])); clear HO3 HG3))
        refine ⟨rfl, _, results_none rfl _ _ _, rfl, _, by rw [unhide HEQ, ← List.append_assoc, unhide HTS]; exact (unhide HLP).1, ?_⟩
        refine ((unhide HP2).kept (unhide HBB) (unhide HKW) ?_).kept (Nat.le_trans (unhide HBB) (unhide HKW).size) ((Kept.refl [bl] w3).setCell (p := ⟨bl, 0, none⟩) (Or.inl (by simp)) _) ?_
        · intro b hb
          right
          exact ((unhide HL2).own.lt b (by simpa using hb)).1
        · intro b hb
          left
          simpa using hb
end Go.Proofs.YtecadmldnjlibaaDoor
namespace Go.Proofs.YtecadmldnjlibaaDoor
open Go.RowKit Go.BigFrame
set_option linter.unusedVariables false
set_option linter.unusedSimpArgs false

def seamV (bi bl bc : Nat) : Value := .func (.func 56) #[] #[.pointer (some ⟨bi, 0, none⟩), .pointer (some ⟨bl, 0, none⟩), .pointer (some ⟨bc, 0, none⟩)]
structure SeamW (bi bc i : Nat) (bl : Nat) (W0 w : World) : Prop where
  hc : w.heap[bc]? = some (.cells #[seamV bi bl bc] 95 (0, 0))
  hi : w.heap[bi]? = some (.cells #[.int .u64 i] 49 (0, 0))
  lt : bc < W0.heap.size ∧ bi < W0.heap.size
  ne : bc ≠ bl ∧ bi ≠ bl
theorem SeamW.kept {bi bc i bl : Nat} {W0 w w' : World} (h : SeamW bi bc i bl W0 w) (hl : W0.heap.size ≤ w.heap.size) {L : List Nat} (k : Kept L w w') (hL : ∀ b ∈ L, b = bl ∨ W0.heap.size ≤ b) : SeamW bi bc i bl W0 w' := by
  refine ⟨k.heap h.hc ?_, k.heap h.hi ?_, h.lt, h.ne⟩
  · intro hm; rcases hL _ hm with e | e
    · exact h.ne.1 e
    · have := h.lt.1; omega
  · intro hm; rcases hL _ hm with e | e
    · exact h.ne.2 e
    · have := h.lt.2; omega

set_option maxRecDepth 100000 in
set_option maxHeartbeats 1000000 in
theorem seamC_end (W0 : World) (bi bc bl m : Nat) (c lo : Nat) (wh : Bool) (ss : List (Nat × Nat)) (v : Value) (w : World) (h4 : ss.length + c ≤ 1000000) (HL : Lst W0 bl ss w v) (HP : SeamW bi bc m bl W0 w) :
    Calls Tryd.prog 56 #[.int .u64 lo, .int .u64 m, .bool wh, .pointer (some ⟨bi, 0, none⟩), .pointer (some ⟨bl, 0, none⟩), .pointer (some ⟨bc, 0, none⟩)] w fun e w' => e = .returned (.tuple #[]) ∧ ∃ u, Lst W0 bl (ss ++ seamF m c lo m wh) w' u ∧ SeamW bi bc m bl W0 w' := by
    have HL := hide HL
    have HP := hide HP
    have HS := hide h4
    clear h4
    have ci := cell_of_row _ _ 0 _ _ _ (unhide HP).hi
    simp at ci
    cases wh with
    | true =>
      go_enter Tryd.func56, Tryd.ntmps56
      go_wp2_with fail
      exact ⟨rfl, _, results_none rfl _ _ _, rfl, v, by rw [seamF_end rfl, if_pos rfl, List.append_nil]; exact unhide HL, unhide HP⟩
    | false =>
      have cl := cell_of_row _ _ 0 _ _ _ (unhide HL).row
      simp at cl
      have HL2 := hide ((unhide HL).old ((Kept.refl [] w).alloc (.cells #[.int .u64 (lo : Int), .int .u64 (m : Int)] 92)))
      have HP2 := hide ((unhide HP).kept (unhide HL).kept.size ((Kept.refl [] w).alloc (.cells #[.int .u64 (lo : Int), .int .u64 (m : Int)] 92)) (by simp))
      have HN2 := hide (heap_alloc_new w (.cells #[.int .u64 (lo : Int), .int .u64 (m : Int)] 92))
      have HBB := hide (unhide HL2).kept.size
      have HSL := hide (by have := unhide HS; omega : ss.length + 1 ≤ 1000000000000)
      clear HL HP
      go_enter Tryd.func56, Tryd.ntmps56
      go_wp2_with ((at_builtin; refine wpList_pushSp rfl (.tmp 15) (.tmp 19) rfl rfl _ W0.heap.size v ss lo m w.heap.size (unhide HL2).own (unhide HN2) (unhide HSL) (unhide HBB) rfl rfl ?_; intro g cap w3 HO3 HG3; have HLP := hide ((unhide HL2).push (x := lo) (y := m) (unhide HO3) (unhide HG3)); have cb := (unhide HLP).2.1; have zb := frozen_of_row _ _ 0 _ _ (unhide HLP).2.2; have HKW := hide ((Kept.refl v.ownBlock.toList (w.alloc (.cells #[.int .u64 (lo : Int), .int .u64 (m : Int)] 92))).grown (unhide HG3) (by intro k hk; left; simp [hk])); clear HO3 HG3))
      refine ⟨rfl, _, results_none rfl _ _ _, rfl, _, by rw [seamF_end rfl]; exact (unhide HLP).1, ?_⟩
      refine ((unhide HP2).kept (unhide HBB) (unhide HKW) ?_).kept (Nat.le_trans (unhide HBB) (unhide HKW).size) ((Kept.refl [bl] w3).setCell (p := ⟨bl, 0, none⟩) (Or.inl (by simp)) _) ?_
      · intro b hb
        right
        exact ((unhide HL2).own.lt b (by simpa using hb)).1
      · intro b hb
        left
        simpa using hb

set_option maxRecDepth 100000 in
set_option maxHeartbeats 1000000 in
theorem seamC_any (W0 : World) (bi bc bl m : Nat) : ∀ (c lo hi : Nat) (wh : Bool) (ss : List (Nat × Nat)) (v : Value) (w : World), lo < m → m ≤ hi → hi - lo ≤ 2 ^ c → hi < 18446744073709551616 → ss.length + c ≤ 1000000 → Lst W0 bl ss w v → SeamW bi bc m bl W0 w →
    Calls Tryd.prog 56 #[.int .u64 lo, .int .u64 hi, .bool wh, .pointer (some ⟨bi, 0, none⟩), .pointer (some ⟨bl, 0, none⟩), .pointer (some ⟨bc, 0, none⟩)] w fun e w' => e = .returned (.tuple #[]) ∧ ∃ u, Lst W0 bl (ss ++ seamF m c lo hi wh) w' u ∧ SeamW bi bc m bl W0 w' := by
  intro c
  induction c with
  | zero =>
    intro lo hi wh ss v w h1 h0 h2 h3 h4 HL HP
    have e : hi = m := by simp at h2; omega
    subst e
    exact seamC_end W0 bi bc bl hi 0 lo wh ss v w h4 HL HP
  | succ c ih =>
    intro lo hi wh ss v w h1 h0 h2 h3 h4 HL HP
    by_cases hone : m = hi
    · subst hone
      exact seamC_end W0 bi bc bl m (c + 1) lo wh ss v w h4 HL HP
    · have HL := hide HL
      have HP := hide HP
      have HIH := hide ih
      have HS := hide h4
      clear ih h4
      have hne : ¬ (m : Int) = (hi : Int) := by omega
      have HSP := hide (msplit_any lo hi w (by omega) h3)
      have hb := belT_lt (n := hi - lo) (by omega)
      have hb2 := belT_half (n := hi - lo) (c := c) (by omega) h2
      have HPL := hide (fun h => seamF_l (m := m) (c := c) (lo := lo) (hi := hi) (wh := wh) hone h)
      have HPR := hide (fun h => seamF_r (m := m) (c := c) (lo := lo) (hi := hi) (wh := wh) hone h)
      obtain ⟨md, hm⟩ : ∃ md, lo + belT (hi - lo) = md := ⟨_, rfl⟩
      rw [hm] at HSP HPL HPR
      have hm1 : lo < md := by omega
      have hm2 : md < hi := by omega
      have HB := hide (by omega : md - lo ≤ 2 ^ c ∧ hi - md ≤ 2 ^ c)
      have HSZ := hide (unhide HL).kept.size
      clear hb hb2 h2 hm
      have ci := cell_of_row _ _ 0 _ _ _ (unhide HP).hi
      simp at ci
      go_enter Tryd.func56, Tryd.ntmps56
      go_wp2_with fail
      refine (unhide HSP).mono ?_
      rintro e w1 ⟨rfl, k1⟩
      have HL1 := hide ((unhide HL).old k1)
      have HP1 := hide ((unhide HP).kept (unhide HSZ) k1 (by simp))
      have HSZ1 := hide (unhide HL1).kept.size
      clear HL HP k1 HSP HSZ ci
      have ci := cell_of_row _ _ 0 _ _ _ (unhide HP1).hi
      have cc := cell_of_row _ _ 0 _ _ _ (unhide HP1).hc
      unfold seamV at cc
      simp at ci cc
      by_cases him : m ≤ md
      · have him' : (m : Int) ≤ (md : Int) := by omega
        have HR1 := hide (unhide HIH lo md wh ss v w1 (by omega) (by omega) (unhide HB).1 (by omega) (by have := unhide HS; omega) (unhide HL1) (unhide HP1))
        have HSL := hide (by have := unhide HS; have := seamF_len m c lo md wh; rw [List.length_append]; omega : (ss ++ seamF m c lo md wh).length + 1 ≤ 1000000000000)
        have HEQ := hide (unhide HPL him)
        clear HIH HB HPL HPR
        go_wp2_with fail
        refine (unhide HR1).mono ?_
        rintro e w2 ⟨rfl, u, l2, p2⟩
        have HL2 := hide (l2.old ((Kept.refl [] w2).alloc (.cells #[.int .u64 (md : Int), .int .u64 (hi : Int)] 92)))
        have HP2 := hide (p2.kept l2.kept.size ((Kept.refl [] w2).alloc (.cells #[.int .u64 (md : Int), .int .u64 (hi : Int)] 92)) (by simp))
        have HN2 := hide (heap_alloc_new w2 (.cells #[.int .u64 (md : Int), .int .u64 (hi : Int)] 92))
        have cl := cell_of_row _ _ 0 _ _ _ l2.row
        simp at cl
        have HBB := hide (unhide HL2).kept.size
        clear l2 p2 HR1 HL1 HP1 ci cc HSZ1
        obtain ⟨ts, hts⟩ : ∃ ts, ss ++ seamF m c lo md wh = ts := ⟨_, rfl⟩
        rw [hts] at HL2 HSL
        have HTS := hide hts
        clear hts
        go_wp2_with ((at_builtin; refine wpList_pushSp rfl (.tmp 32) (.tmp 36) rfl rfl _ W0.heap.size u ts md hi w2.heap.size (unhide HL2).own (unhide HN2) (unhide HSL) (unhide HBB) rfl rfl ?_; intro g cap w3 HO3 HG3; have HLP := hide ((unhide HL2).push (x := md) (y := hi) (unhide HO3) (unhide HG3)); have cb := (unhide HLP).2.1; have zb := frozen_of_row _ _ 0 _ _ (unhide HLP).2.2; have HKW := hide ((Kept.refl u.ownBlock.toList (w2.alloc (.cells #[.int .u64 (md : Int), .int .u64 (hi : Int)] 92))).grown (unhide HG3) (by intro k hk; left; simp [hk])); clear HO3 HG3))
        refine ⟨rfl, _, results_none rfl _ _ _, rfl, _, by rw [unhide HEQ, ← List.append_assoc, unhide HTS]; exact (unhide HLP).1, ?_⟩
        refine ((unhide HP2).kept (unhide HBB) (unhide HKW) ?_).kept (Nat.le_trans (unhide HBB) (unhide HKW).size) ((Kept.refl [bl] w3).setCell (p := ⟨bl, 0, none⟩) (Or.inl (by simp)) _) ?_
        · intro b hb
          right
          exact ((unhide HL2).own.lt b (by simpa using hb)).1
        · intro b hb
          left
          simpa using hb
      · have him' : ¬ (m : Int) ≤ (md : Int) := by omega
        have HR1 := hide (unhide HIH md hi false ss v w1 (by omega) (by omega) (unhide HB).2 (by omega) (by have := unhide HS; omega) (unhide HL1) (unhide HP1))
        have HSL := hide (by have := unhide HS; have := seamF_len m c md hi false; rw [List.length_append]; omega : (ss ++ seamF m c md hi false).length + 1 ≤ 1000000000000)
        have HEQ := hide (unhide HPR him)
        clear HIH HB HPL HPR
        go_wp2_with fail
        refine (unhide HR1).mono ?_
        rintro e w2 ⟨rfl, u, l2, p2⟩
        have HL2 := hide (l2.old ((Kept.refl [] w2).alloc (.cells #[.int .u64 (lo : Int), .int .u64 (md : Int)] 92)))
        have HP2 := hide (p2.kept l2.kept.size ((Kept.refl [] w2).alloc (.cells #[.int .u64 (lo : Int), .int .u64 (md : Int)] 92)) (by simp))
        have HN2 := hide (heap_alloc_new w2 (.cells #[.int .u64 (lo : Int), .int .u64 (md : Int)] 92))
        have cl := cell_of_row _ _ 0 _ _ _ l2.row
        simp at cl
        have HBB := hide (unhide HL2).kept.size
        clear l2 p2 HR1 HL1 HP1 ci cc HSZ1
        obtain ⟨ts, hts⟩ : ∃ ts, ss ++ seamF m c md hi false = ts := ⟨_, rfl⟩
        rw [hts] at HL2 HSL
        have HTS := hide hts
        clear hts
        go_wp2_with ((at_builtin; refine wpList_pushSp rfl (.tmp 42) (.tmp 46) rfl rfl _ W0.heap.size u ts lo md w2.heap.size (unhide HL2).own (unhide HN2) (unhide HSL) (unhide HBB) rfl rfl ?_; intro g cap w3 HO3 HG3; have HLP := hide ((unhide HL2).push (x := lo) (y := md) (unhide HO3) (unhide HG3)); have cb := (unhide HLP).2.1; have zb := frozen_of_row _ _ 0 _ _ (unhide HLP).2.2; have HKW := hide ((Kept.refl u.ownBlock.toList (w2.alloc (.cells #[.int .u64 (lo : Int), .int .u64 (md : Int)] 92))).grown (unhide HG3) (by intro k hk; left; simp [hk])); clear HO3 HG3))
        refine ⟨rfl, _, results_none rfl _ _ _, rfl, _, by rw [unhide HEQ, ← List.append_assoc, unhide HTS]; exact (unhide HLP).1, ?_⟩
        refine ((unhide HP2).kept (unhide HBB) (unhide HKW) ?_).kept (Nat.le_trans (unhide HBB) (unhide HKW).size) ((Kept.refl [bl] w3).setCell (p := ⟨bl, 0, none⟩) (Or.inl (by simp)) _) ?_
        · intro b hb
          right
          exact ((unhide HL2).own.lt b (by simpa using hb)).1
        · intro b hb
          left
          simpa using hb
end Go.Proofs.YtecadmldnjlibaaDoor
namespace Go.Proofs.YtecadmldnjlibaaDoor
open Go.RowKit Go.BigFrame
set_option linter.unusedVariables false
set_option linter.unusedSimpArgs false

/-- A list of ranges in memory of its own. -/
def SpAt (w0 w : World) (v : Value) (ss : List (Nat × Nat)) : Prop := ∃ base, w0.heap.size ≤ base ∧ w.ownsRow base 92 2 v ss.length (cellsS ss)
theorem SpAt.form {w0 w : World} {v : Value} {ss : List (Nat × Nat)} (h : SpAt w0 w v ss) : ∃ ao cap, v = .slice ao ss.length cap := by
  obtain ⟨base, _, h⟩ := h
  rcases h.2 with ⟨rfl, h0⟩ | ⟨g, cap, cur, rfl, _⟩
  · exact ⟨none, 0, by rw [h0]⟩
  · exact ⟨_, cap, rfl⟩
theorem SpAt.old {w0 w w' : World} {v : Value} {ss : List (Nat × Nat)} (h : SpAt w0 w v ss) (k : Kept [] w w') : SpAt w0 w' v ss := by
  obtain ⟨base, hb, h⟩ := h
  exact ⟨base, hb, k.owns h (by simp)⟩

set_option maxRecDepth 100000 in
set_option maxHeartbeats 1000000 in
theorem path_any (i n : Nat) (w : World) (hi : i < n) (hn : n < 18446744073709551616) :
    Calls Tryd.prog 41 #[.int .u64 i, .int .u64 n] w fun e w' => ∃ v, e = .returned v ∧ SpAt w w' v (pathF i 64 0 n) ∧ Kept [] w w' := by
  have k0 := ((Kept.refl [] w).alloc (.cells #[.int .u64 (i : Int)] 49)).alloc (.cells #[.slice none 0 0] 80)
  have G3 := alloc3_at w (.cells #[.int .u64 (i : Int)] 49) (.cells #[.slice none 0 0] 80) (.cells #[.nilFunc] 93)
  have cS := cell_of_row _ _ 0 _ _ _ G3
  have fS := frozen_of_row _ _ 0 _ _ G3
  rw [show (#[Value.nilFunc] : Array Value)[0]? = some .nilFunc from rfl] at cS
  have k2 := k0.alloc (.cells #[pathV w.heap.size (w.heap.size + 1 + 1) (w.heap.size + 1)] 93)
  have G4 := alloc3_at w (.cells #[.int .u64 (i : Int)] 49) (.cells #[.slice none 0 0] 80) (.cells #[pathV w.heap.size (w.heap.size + 1 + 1) (w.heap.size + 1)] 93)
  have GT := (((Kept.refl [] (w.alloc (.cells #[.int .u64 (i : Int)] 49))).alloc (.cells #[.slice none 0 0] 80)).alloc (.cells #[pathV w.heap.size (w.heap.size + 1 + 1) (w.heap.size + 1)] 93)).heap (heap_alloc_new w (.cells #[.int .u64 (i : Int)] 49)) (by simp)
  have GZ := ((Kept.refl [] ((w.alloc (.cells #[.int .u64 (i : Int)] 49)).alloc (.cells #[.slice none 0 0] 80))).alloc (.cells #[pathV w.heap.size (w.heap.size + 1 + 1) (w.heap.size + 1)] 93)).heap (alloc2_at w (.cells #[.int .u64 (i : Int)] 49) (.cells #[.slice none 0 0] 80)) (by simp)
  obtain ⟨X, hX⟩ : ∃ X, ((w.alloc (.cells #[.int .u64 (i : Int)] 49)).alloc (.cells #[.slice none 0 0] 80)).alloc (.cells #[pathV w.heap.size (w.heap.size + 1 + 1) (w.heap.size + 1)] 93) = X := ⟨_, rfl⟩
  have hsz : X.heap.size = w.heap.size + 3 := by rw [← hX]; simp
  rw [hX] at k2 G4 GT GZ
  have HL := (⟨Kept.refl _ _, GZ, World.ownsRow_nil _ _ _ _, by omega⟩ : Lst X (w.heap.size + 1) [] X (.slice none 0 0))
  have HP := (⟨G4, GT, ⟨by omega, by omega⟩, ⟨by omega, by omega⟩⟩ : PathW w.heap.size (w.heap.size + 1 + 1) i (w.heap.size + 1) X X)
  have HC := hide (pathC_any X w.heap.size (w.heap.size + 1 + 1) (w.heap.size + 1) i 64 0 n [] (.slice none 0 0) X (by omega) (by omega) hn (by simp) HL HP)
  have HX := hide (by rw [hsz]; omega : w.heap.size ≤ X.heap.size)
  have HK := hide k2
  rw [List.nil_append] at HC
  unfold pathV at hX
  have HXE := hide hX
  clear k0 k2 G3 G4 GT GZ HL HP hX hsz
  go_enter Tryd.func41, Tryd.ntmps41
  go_wp2_with (rw [run_store _ _ _ _ _ (by rfl), cS]; simp only [fS, Bool.false_eq_true, if_false, Result.andThen_ok])
  rw [unhide HXE]
  refine (unhide HC).mono ?_
  rintro e w5 ⟨rfl, u, l5, _⟩
  have cu := cell_of_row _ _ 0 _ _ _ l5.row
  simp at cu
  have HL5 := hide l5
  clear l5 cS fS HC
  go_wp2_with fail
  go_ret
  exact ⟨u, rfl, ⟨_, unhide HX, (unhide HL5).own⟩, (unhide HK).trans (unhide HL5).kept (by intro x hx; right; simp at hx; omega)⟩
end Go.Proofs.YtecadmldnjlibaaDoor
namespace Go.Proofs.YtecadmldnjlibaaDoor
open Go.RowKit Go.BigFrame
set_option linter.unusedVariables false
set_option linter.unusedSimpArgs false

/-- The ranges of a consistency proof of m and n. -/
def smL (m n : Nat) : List (Nat × Nat) := if m = 0 ∨ m = n then [] else seamF m 64 0 n true

set_option maxRecDepth 100000 in
set_option maxHeartbeats 1000000 in
theorem seam_any (m n : Nat) (w : World) (hm : m ≤ n) (hn : n < 18446744073709551616) :
    Calls Tryd.prog 42 #[.int .u64 m, .int .u64 n] w fun e w' => ∃ v, e = .returned v ∧ SpAt w w' v (smL m n) ∧ Kept [] w w' := by
  have c1 := cell_of_row _ _ 0 _ _ _ (heap_alloc_new w (.cells #[.int .u64 (m : Int)] 49))
  simp at c1
  by_cases h0 : m = 0
  · subst h0
    go_enter Tryd.func42, Tryd.ntmps42
    go_wp2_with fail
    go_ret
    exact ⟨_, rfl, ⟨_, Nat.le_refl _, by unfold smL; rw [if_pos (by simp)]; exact World.ownsRow_nil _ _ _ _⟩, (Kept.refl [] w).alloc _⟩
  · have h0' : ¬ (m : Int) = 0 := by omega
    by_cases h1 : m = n
    · subst h1
      go_enter Tryd.func42, Tryd.ntmps42
      go_wp2_with fail
      go_ret
      exact ⟨_, rfl, ⟨_, Nat.le_refl _, by unfold smL; rw [if_pos (by simp)]; exact World.ownsRow_nil _ _ _ _⟩, (Kept.refl [] w).alloc _⟩
    · have h1' : ¬ (m : Int) = (n : Int) := by omega
      have hb0 : ((m : Int) == 0) = false := by simp; omega
      have hb1 : ((m : Int) == (n : Int)) = false := by simp; omega
      have HSM := hide (by unfold smL; rw [if_neg (by omega)] : smL m n = seamF m 64 0 n true)
      have k0 := ((Kept.refl [] w).alloc (.cells #[.int .u64 (m : Int)] 49)).alloc (.cells #[.slice none 0 0] 80)
      have G3 := alloc3_at w (.cells #[.int .u64 (m : Int)] 49) (.cells #[.slice none 0 0] 80) (.cells #[.nilFunc] 95)
      have cS := cell_of_row _ _ 0 _ _ _ G3
      have fS := frozen_of_row _ _ 0 _ _ G3
      rw [show (#[Value.nilFunc] : Array Value)[0]? = some .nilFunc from rfl] at cS
      have k2 := k0.alloc (.cells #[seamV w.heap.size (w.heap.size + 1) (w.heap.size + 1 + 1)] 95)
      have G4 := alloc3_at w (.cells #[.int .u64 (m : Int)] 49) (.cells #[.slice none 0 0] 80) (.cells #[seamV w.heap.size (w.heap.size + 1) (w.heap.size + 1 + 1)] 95)
      have GT := (((Kept.refl [] (w.alloc (.cells #[.int .u64 (m : Int)] 49))).alloc (.cells #[.slice none 0 0] 80)).alloc (.cells #[seamV w.heap.size (w.heap.size + 1) (w.heap.size + 1 + 1)] 95)).heap (heap_alloc_new w (.cells #[.int .u64 (m : Int)] 49)) (by simp)
      have GZ := ((Kept.refl [] ((w.alloc (.cells #[.int .u64 (m : Int)] 49)).alloc (.cells #[.slice none 0 0] 80))).alloc (.cells #[seamV w.heap.size (w.heap.size + 1) (w.heap.size + 1 + 1)] 95)).heap (alloc2_at w (.cells #[.int .u64 (m : Int)] 49) (.cells #[.slice none 0 0] 80)) (by simp)
      obtain ⟨X, hX⟩ : ∃ X, ((w.alloc (.cells #[.int .u64 (m : Int)] 49)).alloc (.cells #[.slice none 0 0] 80)).alloc (.cells #[seamV w.heap.size (w.heap.size + 1) (w.heap.size + 1 + 1)] 95) = X := ⟨_, rfl⟩
      have hsz : X.heap.size = w.heap.size + 3 := by rw [← hX]; simp
      rw [hX] at k2 G4 GT GZ
      have HL := (⟨Kept.refl _ _, GZ, World.ownsRow_nil _ _ _ _, by omega⟩ : Lst X (w.heap.size + 1) [] X (.slice none 0 0))
      have HP := (⟨G4, GT, ⟨by omega, by omega⟩, ⟨by omega, by omega⟩⟩ : SeamW w.heap.size (w.heap.size + 1 + 1) m (w.heap.size + 1) X X)
      have HC := hide (seamC_any X w.heap.size (w.heap.size + 1 + 1) (w.heap.size + 1) m 64 0 n true [] (.slice none 0 0) X (by omega) (by omega) (by omega) hn (by simp) HL HP)
      have HX := hide (by rw [hsz]; omega : w.heap.size ≤ X.heap.size)
      have HK := hide k2
      rw [List.nil_append] at HC
      unfold seamV at hX
      have HXE := hide hX
      clear k0 k2 G3 G4 GT GZ HL HP hX hsz
      go_enter Tryd.func42, Tryd.ntmps42
      go_wp2_with (first | (simp only [hb0, hb1, Bool.or_self]) | (rw [run_store _ _ _ _ _ (by rfl), cS]; simp only [fS, Bool.false_eq_true, if_false, Result.andThen_ok]))
      rw [unhide HXE]
      refine (unhide HC).mono ?_
      rintro e w5 ⟨rfl, u, l5, _⟩
      have cu := cell_of_row _ _ 0 _ _ _ l5.row
      simp at cu
      have HL5 := hide l5
      clear l5 cS fS HC c1
      go_wp2_with fail
      go_ret
      exact ⟨u, rfl, ⟨_, unhide HX, by rw [unhide HSM]; exact (unhide HL5).own⟩, (unhide HK).trans (unhide HL5).kept (by intro x hx; right; simp at hx; omega)⟩

/-- What Counts answers. -/
def cntE (i m n : Nat) : Int := if n ≤ i ∨ n < m then 4 else 0
def cntA (i m n : Nat) : Int := if n ≤ i ∨ n < m then 0 else ((pathF i 64 0 n).length : Int)
def cntB (i m n : Nat) : Int := if n ≤ i ∨ n < m then 0 else ((smL m n).length : Int)

set_option maxRecDepth 100000 in
set_option maxHeartbeats 1000000 in
theorem counts_any (i m n : Nat) (w : World) (hi : i < 18446744073709551616) (hm : m < 18446744073709551616) (hn : n < 18446744073709551616) :
    Calls Tryd.prog 22 #[.int .u64 i, .int .u64 m, .int .u64 n] w fun e w' => e = .returned (.tuple #[.int .i64 (cntA i m n), .int .i64 (cntB i m n), .int .i64 (cntE i m n)]) ∧ Kept [] w w' := by
  unfold cntA cntB cntE
  by_cases h1 : n ≤ i
  · have h1' : (n : Int) ≤ (i : Int) := by omega
    rw [if_pos (Or.inl h1), if_pos (Or.inl h1), if_pos (Or.inl h1)]
    go_enter Tryd.func22, Tryd.ntmps22
    go_wp2_with fail
    all_goals exact ⟨rfl, _, results_tmp3 rfl _ _ _, rfl, Kept.refl _ _⟩
  · have h1' : ¬ (n : Int) ≤ (i : Int) := by omega
    by_cases h2 : n < m
    · have h2' : (n : Int) < (m : Int) := by omega
      rw [if_pos (Or.inr h2), if_pos (Or.inr h2), if_pos (Or.inr h2)]
      go_enter Tryd.func22, Tryd.ntmps22
      go_wp2_with fail
      all_goals exact ⟨rfl, _, results_tmp3 rfl _ _ _, rfl, Kept.refl _ _⟩
    · have h2' : ¬ (n : Int) < (m : Int) := by omega
      rw [if_neg (by omega), if_neg (by omega), if_neg (by omega)]
      have HSE := hide (fun W => seam_any m n W (by omega) hn)
      have HPA := hide (path_any i n w (by omega) hn)
      generalize pathF i 64 0 n = ps at HPA ⊢
      generalize smL m n = ss at HSE ⊢
      go_enter Tryd.func22, Tryd.ntmps22
      go_wp2_with fail
      refine (unhide HPA).mono ?_
      rintro e w1 ⟨v1, rfl, s1, k1⟩
      obtain ⟨a1, c1, rfl⟩ := s1.form
      have HK1 := hide k1
      clear s1 k1 HPA
      go_wp2_with fail
      refine (unhide HSE w1).mono ?_
      rintro e w2 ⟨v2, rfl, s2, k2⟩
      obtain ⟨a2, c2, rfl⟩ := s2.form
      have HK2 := hide ((unhide HK1).trans k2 (by simp))
      clear s2 k2 HSE
      go_wp2_with fail
      exact ⟨rfl, _, results_tmp3 rfl _ _ _, rfl, unhide HK2⟩
end Go.Proofs.YtecadmldnjlibaaDoor
namespace Go.Proofs.YtecadmldnjlibaaDoor
open Go.RowKit Go.BigFrame
set_option linter.unusedVariables false
set_option linter.unusedSimpArgs false

theorem RdD.nlP {w : World} {ao : Option Addr} {len cap : Nat} {ds : List (List Nat)} (h : RdD w (.slice ao len cap) ds) : ds.length = len := by
  obtain ⟨_, _, _, e, h1, _⟩ := h
  cases e; exact h1
theorem RdD.oneP {w : World} {g : Nat} {l : List Nat} {t : TypeId} {fr : Nat × Nat} (h : w.heap[g]? = some (.cells (brow l) t fr)) (hl : Dg l) : RdD w (.slice (some ⟨g, 0, none⟩) 1 1) [l] := by
  refine ⟨_, 1, 1, rfl, rfl, Nat.le_refl _, by omega, fun d hd => by simp at hd; subst hd; exact hl, fun _ => ⟨g, 0, rfl, fun i hi => ?_⟩⟩
  obtain rfl : i = 0 := by omega
  exact range_row h
/-- The cells of digests in a row. -/
def flatD (ds : List (List Nat)) : List Value := (ds.map fun d => d.map u8).flatten
theorem flatD_len {ds : List (List Nat)} (h : ∀ d ∈ ds, d.length = 32) : (flatD ds).length = ds.length * 32 := by
  induction ds with
  | nil => rfl
  | cons d r ih =>
    have := ih (fun x hx => h x (by simp [hx]))
    simp only [flatD, List.map_cons, List.flatten_cons, List.length_append, List.length_map, List.length_cons] at this ⊢
    rw [this, h d (by simp)]; omega
theorem flatD_app (a b : List (List Nat)) : flatD (a ++ b) = flatD a ++ flatD b := by simp [flatD]
theorem flatD_one (ds : List (List Nat)) : ∀ v ∈ flatD ds, v.oneCell' = true := by
  intro v hv
  simp only [flatD, List.mem_flatten, List.mem_map] at hv
  obtain ⟨l, ⟨d, _, rfl⟩, h⟩ := hv
  exact u8_oneCell d v h
theorem flatD_at {ds : List (List Nat)} (h : ∀ d ∈ ds, d.length = 32) : ∀ (i : Nat), i < ds.length → ∀ j, j < 32 → (flatD ds)[i * 32 + j]? = ((ds.getD i []).map u8)[j]? := by
  induction ds with
  | nil => intro i hi; simp at hi
  | cons d r ih =>
    intro i hi j hj
    have hd := h d (by simp)
    have e : flatD (d :: r) = d.map u8 ++ flatD r := by simp [flatD]
    rw [e]
    cases i with
    | zero =>
      rw [Nat.zero_mul, Nat.zero_add, List.getElem?_append_left (by simp [hd]; exact hj)]; rfl
    | succ i =>
      rw [List.getElem?_append_right (by simp [hd]; omega), List.length_map, hd, show (i + 1) * 32 + j - 32 = i * 32 + j by omega, ih (fun x hx => h x (by simp [hx])) i (by simpa using hi) j hj]
      rfl
theorem RdD.news {w : World} {b off n c : Nat} {ds : List (List Nat)} (h : RdD w (.slice (some ⟨b, off, none⟩) n c) ds) : ∀ j u, (flatD ds)[j]? = some u → w.cell? ((⟨b, off, none⟩ : Addr).add j) = some u := by
  obtain ⟨ao', len', cap', e, h1, h2, h3, h4, h5⟩ := h
  cases e
  intro j u hu
  have hl := flatD_len (fun d hd => (h4 d hd).1)
  have hj := (List.getElem?_eq_some_iff.1 hu).1
  have hp : 0 < n := by
    rcases Nat.eq_zero_or_pos n with h0 | h0
    · rw [hl, h1, h0] at hj; omega
    · exact h0
  obtain ⟨b', off', e, hc⟩ := h5 hp
  cases e
  have hi : j / 32 < ds.length := by omega
  have hq := flatD_at (fun d hd => (h4 d hd).1) (j / 32) hi (j % 32) (Nat.mod_lt _ (by decide))
  rw [show j / 32 * 32 + j % 32 = j by omega, hu] at hq
  have := hc (j / 32) (by omega) (j % 32) u hq.symm
  rw [Addr.add_mid]
  rw [show off + j / 32 * 32 + j % 32 = off + j by omega] at this
  exact this
theorem rdd_owns {w : World} {base : Nat} {v : Value} {ds : List (List Nat)} (h : w.ownsRow base 41 32 v ds.length (flatD ds)) (hd : ∀ d ∈ ds, Dg d) : RdD w v ds := by
  rcases h.2 with ⟨rfl, h0⟩ | ⟨g, cap, cur, rfl, _, hg, h1, h2, h3, h4⟩
  · exact ⟨none, 0, 0, rfl, h0, Nat.le_refl _, by omega, hd, fun h => by omega⟩
  · refine ⟨_, ds.length, cap, rfl, rfl, h1, by unfold maxLen at h2; omega, hd, fun hp => ⟨g, 0, rfl, fun i hi j v hv => ?_⟩⟩
    have hj : j < 32 := by
      have := (List.getElem?_eq_some_iff.1 hv).1
      rw [List.length_map, List.getD_eq_getElem?_getD, List.getElem?_eq_getElem hi] at this
      rw [← (hd ds[i] (List.getElem_mem hi)).1]; exact this
    have hq := flatD_at (fun d hd' => (hd d hd').1) i hi j hj
    rw [Nat.zero_add, cell_of_row _ _ _ _ _ _ hg, ← hv, ← hq, ← h4, List.getElem?_take_of_lt (by omega), Array.getElem?_toList]

theorem Tryd.infoD : (Tryd.prog.info? 41).map (fun i => (i.zero, i.size, i.bytes)) = some (some (.agg (zb 32)), 32, 32) := by kernel_rfl

theorem owns_form {w : World} {base : Nat} {e : TypeId} {size n : Nat} {v : Value} {xs : List Value} (h : w.ownsRow base e size v n xs) : ∃ ao cap, v = .slice ao n cap := by
  rcases h.2 with ⟨rfl, rfl⟩ | ⟨g, cap, cur, rfl, _⟩
  · exact ⟨none, 0, rfl⟩
  · exact ⟨_, cap, rfl⟩
theorem append_none {P : Program} {w : World} (base : Nat) (t ty e : TypeId) (i : TypeInfo) (size c : Nat) (ht : P.underlying t = some (.slice e)) (hi : P.info? e = some i)
    (v : Value) (n : Nat) (xs : List Value) (hown : w.ownsRow base e size v n xs) :
    (Builtin.append_ #[t, t] ty #[v, .slice none 0 c]).run P w = .ok v w := by
  rcases hown.2 with ⟨rfl, rfl⟩ | ⟨g, cap, cur, rfl, _, _, hnc, _⟩
  · simp [Builtin.append_, run_underlying ht, sizeOf, typeInfo, hi, Builtin.lenOf, Builtin.firstCells]
  · simp [Builtin.append_, run_underlying ht, sizeOf, typeInfo, hi, Builtin.lenOf, Builtin.firstCells, hnc, storeCells]

theorem appendD (w : World) (base : Nat) (v : Value) (ds ps : List (List Nat)) (ao : Option Addr) (n c : Nat) (h : w.ownsRow base 41 32 v ds.length (flatD ds)) (hr : RdD w (.slice ao n c) ps) (hl : ds.length + ps.length ≤ 1000000000000) (hb : base ≤ w.heap.size) :
    ∃ ao' cap' w1, (Builtin.append_ #[32, 32] 32 #[v, .slice ao n c]).run Tryd.prog w = .ok (.slice ao' (ds.length + ps.length) cap') w1 ∧
      w1.ownsRow base 41 32 (.slice ao' (ds.length + ps.length) cap') (ds ++ ps).length (flatD (ds ++ ps)) ∧ w.grownBy w1 v.ownBlock := by
  obtain ⟨i0, hi, hz0, hz1, hz2⟩ := info_parts Tryd.infoD
  have hn := hr.nlP
  have hdg : ∀ d ∈ ps, d.length = 32 := fun d hd => (hr.dg hd).1
  rw [flatD_app, List.length_append]
  by_cases h0 : n = 0
  · subst h0
    have hp : ps = [] := List.eq_nil_of_length_eq_zero hn
    subst hp
    cases ao with
    | none =>
      have hrun := append_none (P := Tryd.prog) (w := w) base 32 32 41 i0 32 c Tryd.underlying32 hi v ds.length (flatD ds) h
      obtain ⟨ao', cap', rfl⟩ := owns_form h
      exact ⟨ao', cap', w, hrun, by simpa [flatD] using h, World.grownBy.refl _ _⟩
    | some ad =>
      obtain ⟨v', w1, hrun, hown, hgrow, _, hat⟩ := run_append_own_at (P := Tryd.prog) w base 32 32 41 i0 (.agg (zb 32)) 32 32 Tryd.underlying32 hi hz0 hz1 hz2 (by show (zb 32).size = 32; exact zb_size 32) (by decide)
        v ds.length (flatD ds) h ad 0 c (flatD []) (by simp [flatD]) (by intro j u hj; simp [flatD] at hj) (flatD_one _) (by unfold maxLen; omega) (by omega) hb
      obtain ⟨ao', cap', rfl⟩ := owns_form hown
      exact ⟨ao', cap', w1, hrun, hown, hgrow⟩
  · have hr' := hr
    obtain ⟨ao1, n1, c1, he, h1, h2, h3, h4, h5⟩ := hr'
    cases he
    obtain ⟨b, off, rfl, hc⟩ := h5 (by omega)
    obtain ⟨v', w1, hrun, hown, hgrow, _, hat⟩ := run_append_own_at (P := Tryd.prog) w base 32 32 41 i0 (.agg (zb 32)) 32 32 Tryd.underlying32 hi hz0 hz1 hz2 (by show (zb 32).size = 32; exact zb_size 32) (by decide)
      v ds.length (flatD ds) h ⟨b, off, none⟩ n c (flatD ps) (by rw [flatD_len hdg, hn]) hr.news (flatD_one _) (by unfold maxLen; omega) (by omega) hb
    subst h1
    obtain ⟨ao', cap', rfl⟩ := owns_form hown
    exact ⟨ao', cap', w1, hrun, hown, hgrow⟩

theorem wpList_appendD {ops : Array Oper} {rest : List Oper} {o : Oper} {a : Act} {Q : Exit → Act → World → Prop} (hgd : o.guard = none) (s x : Operand)
    (ho : o.op = .call { callee := .builtin .append, args := #[s, x], argTypes := #[32, 32] }) (hty : o.type = 32)
    (w : World) (base : Nat) (v : Value) (ds ps : List (List Nat)) (ao : Option Addr) (n c : Nat) (h : w.ownsRow base 41 32 v ds.length (flatD ds)) (hr : RdD w (.slice ao n c) ps) (hl : ds.length + ps.length ≤ 1000000000000) (hb : base ≤ w.heap.size)
    (hs : a.eval s = v) (hx : a.eval x = .slice ao n c)
    (hK : ∀ ao' cap' w1, Hid (w1.ownsRow base 41 32 (.slice ao' (ds.length + ps.length) cap') (ds ++ ps).length (flatD (ds ++ ps))) → Hid (w.grownBy w1 v.ownBlock) →
      wpList Tryd.prog ops Q rest (a.put o.dst (.slice ao' (ds.length + ps.length) cap')) w1) :
    wpList Tryd.prog ops Q (o :: rest) a w := by
  obtain ⟨ao', cap', w1, hrun, h2, h3⟩ := appendD w base v ds ps ao n c h hr hl hb
  refine wpList_plain hgd fun K hK' => ?_
  unfold Oper.wp execOp
  simp only [ho, hty, resolve, invoke, builtin, Sem.run_bind, Sem.run_pure, Result.andThen_ok, List.map_toArray, List.map_cons, List.map_nil, hs, hx, hrun]
  exact hK' _ _ (hK ao' cap' w1 h2 h3)

end Go.Proofs.YtecadmldnjlibaaDoor
namespace Go.Proofs.YtecadmldnjlibaaDoor
open Go.RowKit Go.BigFrame
set_option linter.unusedVariables false
set_option linter.unusedSimpArgs false

/-- The digests of ranges. -/
def rgL (z : Int) (L : List (List Nat)) (ss : List (Nat × Nat)) : List (List Nat) := ss.map fun s => rgD z L s.1 s.2
/-- A list of digests in memory of its own. -/
structure OwD (w0 w : World) (v : Value) (ds : List (List Nat)) : Prop where
  own : w.ownsRow w0.heap.size 41 32 v ds.length (flatD ds)
  dg : ∀ d ∈ ds, Dg d
  kept : Kept [] w0 w
theorem OwD.rd {w0 w : World} {v : Value} {ds : List (List Nat)} (h : OwD w0 w v ds) : RdD w v ds := rdd_owns h.own h.dg
theorem OwD.pass {w0 w w' : World} {v : Value} {ds : List (List Nat)} (h : OwD w0 w v ds) (k : Kept [] w w') : OwD w0 w' v ds := ⟨k.owns h.own (by simp), h.dg, h.kept.trans k (by simp)⟩
theorem OwD.nil (w : World) : OwD w w (.slice none 0 0) [] := ⟨World.ownsRow_nil _ _ _ _, by simp, Kept.refl _ _⟩
theorem OwD.push {w0 w w1 : World} {v u : Value} {ds : List (List Nat)} {d : List Nat} (h : OwD w0 w v ds) (hd : Dg d) (o : w1.ownsRow w0.heap.size 41 32 u (ds ++ [d]).length (flatD (ds ++ [d]))) (g : w.grownBy w1 v.ownBlock) : OwD w0 w1 u (ds ++ [d]) := by
  refine ⟨o, ?_, h.kept.grown g (by intro k hk; right; exact (h.own.lt k hk).1)⟩
  intro x hx
  rcases List.mem_append.1 hx with hx | hx
  · exact h.dg x hx
  · rw [List.mem_singleton] at hx; subst hx; exact hd

theorem Tryd.size_span : (Tryd.prog.info? 92).map (·.size) = some 2 := by kernel_rfl
theorem SpAt.cells {w0 w : World} {ao : Option Addr} {n c : Nat} {ss : List (Nat × Nat)} (h : SpAt w0 w (.slice ao n c) ss) (i : Nat) (hi : i < ss.length) : ∃ g, ao = some ⟨g, 0, none⟩ ∧ w.rangeAt g (i * 2) [.int .u64 (ss[i].1 : Int), .int .u64 (ss[i].2 : Int)] := by
  obtain ⟨base, _, h⟩ := h
  rcases h.2 with ⟨e, h0⟩ | ⟨g, cap, cur, e, _⟩
  · omega
  · cases e
    refine ⟨g, rfl, ?_⟩
    have hx := cellsS_get ss i hi
    have c1 := h.cells (g := g) rfl (2 * i) _ hx.1
    have c2 := h.cells (g := g) rfl (2 * i + 1) _ hx.2
    rw [Addr.add_mid, Nat.zero_add] at c1 c2
    intro j v hv
    match j, hv with
    | 0, hv => simp at hv; subst hv; rw [show i * 2 + 0 = 2 * i by omega]; exact c1
    | 1, hv => simp at hv; subst hv; rw [show i * 2 + 1 = 2 * i + 1 by omega]; exact c2
    | j + 2, hv => simp at hv
theorem one_digP (l : List Nat) (hl : l.length = 32) : List.foldl (fun cs x => cs.setIfInBounds x.snd x.fst) (zb 32) (List.map u8 l).zipIdx = brow l := by
  have h := fold_put (l.map u8) (zb 32) 0 0 (by rw [zb_size]; simp [hl])
  simp only [Nat.zero_add] at h
  rw [h]
  unfold brow
  rw [List.take_zero, List.nil_append, List.drop_eq_nil_of_le (by rw [List.length_map, hl, Array.length_toList, zb_size]; exact Nat.le_refl _), List.append_nil]

set_option maxRecDepth 100000 in
set_option maxHeartbeats 400000 in
theorem digests_nil (n : Int) (lv : Value) (w : World) :
    Calls Tryd.prog 40 #[.pointer none, .int .u64 n, lv] w fun e w' => e = .returned (.tuple #[.slice none 0 0, .int .i64 5]) ∧ w' = w := by
  go_enter Tryd.func40, Tryd.ntmps40
  go_wp2_with fail
  exact ⟨rfl, _, results_tmp2 rfl _ _ _, rfl, rfl⟩

set_option maxRecDepth 100000 in
set_option maxHeartbeats 400000 in
theorem digests_bad (z : Int) (t : Nat) (v lv : Value) (ps : List Pk) (n : Nat) (w : World) (hT : TreeAt z w t v ps) (hn : (leavesK ps).length < n) :
    Calls Tryd.prog 40 #[.pointer (some ⟨t, 0, none⟩), .int .u64 n, lv] w fun e w' => e = .returned (.tuple #[.slice none 0 0, .int .i64 4]) ∧ Kept [] w w' := by
  have HS := hide (sizeT_any t z v ps w hT)
  have hn' : ((leavesK ps).length : Int) < n := by omega
  generalize (leavesK ps).length = m at HS hn'
  go_enter Tryd.func40, Tryd.ntmps40
  go_wp2_with fail
  refine (unhide HS).mono ?_
  rintro e w1 ⟨rfl, rfl⟩
  go_wp2_with fail
  exact ⟨rfl, _, results_tmp2 rfl _ _ _, rfl, Kept.refl _ _⟩

set_option maxRecDepth 100000 in
set_option maxHeartbeats 1000000 in
theorem digests_any (z : Int) (t : Nat) (v lv : Value) (ps : List Pk) (n : Nat) (ss : List (Nat × Nat)) (w0 w : World) (hT : TreeAt z w t v ps) (hn : n ≤ (leavesK ps).length) (hb : (leavesK ps).length < 32768) (hs : SpAt w0 w lv ss) (hl : ss.length ≤ 1000) (hTb : Tabs w) (h6 : Tab6 w) :
    Calls Tryd.prog 40 #[.pointer (some ⟨t, 0, none⟩), .int .u64 n, lv] w fun e w' => ∃ u, e = .returned (.tuple #[u, .int .i64 0]) ∧ OwD w w' u (rgL z (leavesK ps) ss) := by
  have HS := hide (sizeT_any t z v ps w hT)
  have hn' : ¬ ((leavesK ps).length : Int) < n := by omega
  have HTR := hide hT
  have HTB := hide hTb
  have H6 := hide h6
  have HSP := hide hs
  have HBN := hide hb
  have HDG := hide (fun a b => rgD_len hT.pk a b)
  obtain ⟨sa, sc, rfl⟩ := hs.form
  generalize (leavesK ps).length = m at HS hn'
  clear hT hTb h6 hs hn hb
  go_enter Tryd.func40, Tryd.ntmps40
  go_wp2_with fail
  refine (unhide HS).mono ?_
  rintro e w1 ⟨rfl, rfl⟩
  go_wp2_with fail
  simp only [show decide (m < n) = false from decide_eq_false (by omega)]
  go_loopw [8, 21] (fun t8 t21 wr => ∃ (i : Nat), i ≤ ss.length ∧ t21 = .int .i64 (i : Int) ∧ Hid (OwD w1 wr t8 (rgL z (leavesK ps) (ss.take i)))) (fun _ t _ => ss.length - (intOf t).toNat)
  case atStart => exact ⟨0, Nat.zero_le _, rfl, hide (OwD.nil _)⟩
  case round =>
    obtain ⟨i, hi, rfl, HO⟩ := hrel
    by_cases hlt : i < ss.length
    · have hlt' : (i : Int) < (ss.length : Int) := by omega
      obtain ⟨g, hsa, hcell⟩ := ((unhide HSP).old (unhide HO).kept).cells i hlt
      subst hsa
      have HSN := hide (by unfold rgL; rw [List.take_add_one, List.getElem?_eq_getElem hlt, List.map_append]; rfl : rgL z (leavesK ps) (ss.take (i + 1)) = rgL z (leavesK ps) (ss.take i) ++ [rgD z (leavesK ps) ss[i].1 ss[i].2])
      have HLN := hide (by unfold rgL; rw [List.length_map, List.length_take]; omega : (rgL z (leavesK ps) (ss.take i)).length + 1 ≤ 1000000)
      have HDG1 := hide (unhide HDG ss[i].1 ss[i].2)
      generalize ss[i].1 = lo at hcell HSN HDG1
      generalize ss[i].2 = hi' at hcell HSN HDG1
      have HRG := hide (fun W (k : Kept [] w1 W) => rangeT_all z t v ps lo hi' W ((unhide HTR).old k) (unhide HBN) ((unhide HTB).kept k (by simp) (by simp)) ((unhide H6).kept k))
      generalize rgD z (leavesK ps) lo hi' = D at HRG HSN HDG1
      generalize rgE (leavesK ps) lo hi' = E at HRG
      have hdl := (unhide HDG1).1
      generalize rgL z (leavesK ps) (ss.take i) = ds at HO HSN HLN
      obtain ⟨ua, ucap, rfl⟩ := owns_form (unhide HO).own
      have ia : ¬ (i : Int) < 0 := by omega
      have ib : ¬ (ss.length : Int) ≤ i := by omega
      have kA := (Kept.refl [] wr).alloc (.cells #[.int .u64 (lo : Int), .int .u64 (hi' : Int)] 92)
      have HOA := hide ((unhide HO).pass kA)
      have HRC := hide (unhide HRG _ (unhide HOA).kept)
      have HCL := hide hcell
      clear hcell kA HRG
      go_wp2_with (first
        | (refine wpList_load_mid rfl 92 _ rfl g (i * 2) rfl [.int .u64 (lo : Int), .int .u64 (hi' : Int)] _ (unhide HCL) Tryd.underlying92 rfl (by exact Tryd.size_span) ?_))
      refine (unhide HRC).mono ?_
      rintro e wa ⟨rfl, ka⟩
      have HOB := hide (((unhide HOA).pass ka).pass (kept_old wa D))
      have HN := hide (cell_new wa D)
      clear ka HRC HOA HO HCL
      obtain ⟨wb, hwb⟩ : ∃ wb, (wa.alloc (.cells (zb 32) 41)).setRow wa.heap.size (brow D) = wb := ⟨_, rfl⟩
      rw [hwb] at HOB HN
      have HWB := hide hwb
      have HOC := hide ((unhide HOB).pass ((Kept.refl [] wb).alloc (.cells (brow D) 41)))
      have HNC := hide (heap_alloc_new wb (.cells (brow D) 41))
      clear hwb
      go_wp2_with (first
        | (rw [zb32]; refine wpList_store_row rfl 41 (.tmp 11) _ rfl wa.heap.size (brow D) rfl rfl _ (zb 32) (heap_alloc_new _ _) (Tryd.szD hdl) (by rw [zb_size, brow_size, hdl]) (brow_one _) ?_; rw [unhide HWB])
        | (refine wpList_load_mid rfl 41 _ rfl wa.heap.size 0 rfl (D.map u8) _ (range_row (unhide HN)) Tryd.underlying41 rfl (by rw [List.length_map, hdl]; exact Tryd.size_dig) ?_)
        | (at_builtin; rw [zb32, one_digP D hdl]; refine wpList_appendD rfl _ _ rfl rfl (wb.alloc (.cells (brow D) 41)) w1.heap.size (.slice ua ds.length ucap) ds [D] (some ⟨wb.heap.size, 0, none⟩) 1 1 (unhide HOC).own (RdD.oneP (unhide HNC) (unhide HDG1)) (by have := unhide HLN; simp; omega) (unhide HOC).kept.size rfl rfl ?_; intro ao3 cap3 w3 HO3 HG3; have HO4 := hide ((unhide HOC).push (unhide HDG1) (unhide HO3) (unhide HG3)); clear HO3 HG3))
      go_roundw
      case rel => exact ⟨i + 1, by omega, by simp, by rw [unhide HSN]; exact HO4⟩
      case measure => simp [intOf]; omega
    · have hlt' : ¬ (i : Int) < (ss.length : Int) := by omega
      have HE := hide (by rw [List.take_of_length_le (by omega)] : ss.take i = ss)
      go_wp2_with fail
      exact ⟨rfl, _, results_tmp2 rfl _ _ _, _, rfl, by have h9 := unhide HO; rw [unhide HE] at h9; exact h9⟩
end Go.Proofs.YtecadmldnjlibaaDoor
namespace Go.Proofs.YtecadmldnjlibaaDoor
open Go.RowKit Go.BigFrame
set_option linter.unusedVariables false
set_option linter.unusedSimpArgs false

theorem flatD_cut {ds : List (List Nat)} {i : Nat} (hi : i < ds.length) : flatD ds = flatD (ds.take i) ++ ((ds[i]).map u8 ++ flatD (ds.drop (i + 1))) := by
  have e : ds = ds.take i ++ (ds[i] :: ds.drop (i + 1)) := by rw [← List.drop_eq_getElem_cons hi, List.take_append_drop]
  have e2 : flatD ds = flatD (ds.take i ++ (ds[i] :: ds.drop (i + 1))) := congrArg flatD e
  rw [e2, flatD_app]
  congr 1
theorem flatD_set {ds : List (List Nat)} {i : Nat} (hi : i < ds.length) (X : List Nat) : flatD (ds.set i X) = flatD (ds.take i) ++ (X.map u8 ++ flatD (ds.drop (i + 1))) := by
  rw [List.set_eq_take_append_cons_drop, if_pos hi, flatD_app]
  simp [flatD]
/-- A digest written into an owned row of digests. -/
theorem owns_put {w : World} {base g cap : Nat} {ds : List (List Nat)} {i : Nat} {X : List Nat} (ho : w.ownsRow base 41 32 (.slice (some ⟨g, 0, none⟩) ds.length cap) ds.length (flatD ds)) (hd : ∀ d ∈ ds, d.length = 32) (hi : i < ds.length) (hX : X.length = 32) :
    w.there g (i * 32) 32 ∧ (w.setCells g (i * 32) (X.map u8)).ownsRow base 41 32 (.slice (some ⟨g, 0, none⟩) ds.length cap) ds.length (flatD (ds.set i X)) ∧ Kept [g] w (w.setCells g (i * 32) (X.map u8)) := by
  rcases ho.2 with ⟨h9, _⟩ | ⟨g', cap', cur, e, hb, hg, hc1, hc2, hcs, htk⟩
  · simp at h9
  · simp only [Value.slice.injEq, Option.some.injEq, Addr.mk.injEq, and_true, true_and] at e
    obtain ⟨rfl, rfl⟩ := e
    have hl1 : (flatD (ds.take i)).length = i * 32 := by
      rw [flatD_len (fun d h => hd d (List.mem_of_mem_take h)), List.length_take, Nat.min_eq_left (by omega)]
    have hcl : cur = (flatD (ds.take i) ++ ((ds[i]).map u8 ++ (flatD (ds.drop (i + 1)) ++ cur.toList.drop (ds.length * 32)))).toArray := by
      have h1 : cur.toList = flatD ds ++ cur.toList.drop (ds.length * 32) := by conv => lhs; rw [← List.take_append_drop (ds.length * 32) cur.toList, htk]
      rw [flatD_cut hi] at h1
      have h2 : cur = cur.toList.toArray := by simp
      rw [h2]
      conv => lhs; rw [h1]
      simp
    have hdi : (ds[i]).length = 32 := hd _ (List.getElem_mem hi)
    have hg2 := hg
    rw [hcl] at hg2
    have hs := setCells_row g 41 (X.map u8) ((ds[i]).map u8) (flatD (ds.take i)) _ w (by simp [hX, hdi]) hg2
    rw [hl1] at hs
    refine ⟨fun j hj => ⟨?_, frozen_of_row _ _ _ _ _ hg⟩, ⟨?_, Or.inr ⟨g, cap, _, rfl, hb, hs.1, hc1, hc2, ?_, ?_⟩⟩, hs.2⟩
    · rw [cell_of_row w g (i * 32 + j) _ _ _ hg, Array.getElem?_eq_getElem (by rw [hcs]; omega)]; rfl
    · rw [flatD_set hi]
      have := ho.1
      rw [flatD_cut hi] at this
      simp only [List.length_append, List.length_map] at this ⊢
      omega
    · have h3 := congrArg Array.size hcl
      rw [hcs] at h3
      simp only [List.size_toArray, List.length_append, List.length_map] at h3 ⊢
      omega
    · have h4 := ho.1
      rw [flatD_cut hi] at h4
      simp only [List.length_append, List.length_map] at h4
      rw [flatD_set hi, ← List.append_assoc (X.map u8), ← List.append_assoc (flatD (ds.take i))]
      rw [List.take_left' (by simp only [List.length_append, List.length_map]; omega)]
theorem OwD.there {w0 w : World} {v : Value} {ds : List (List Nat)} (h : OwD w0 w v ds) (hp : 0 < ds.length) : ∃ g cap, v = .slice (some ⟨g, 0, none⟩) ds.length cap ∧ w0.heap.size ≤ g ∧ (∃ cs, w.heap[g]? = some (.cells cs 41 (0, 0))) := by
  rcases h.own.2 with ⟨_, h9⟩ | ⟨g, cap, cur, e, hb, hg, _⟩
  · omega
  · exact ⟨g, cap, e, hb, _, hg⟩

/-- A tree whose peaks lie in memory of their own. -/
structure TrO (z : Int) (w : World) (t : Nat) (v : Value) (ps : List Pk) : Prop where
  tree : TreeAt z w t v ps
  nil : ps = [] → v = .slice none 0 0
  own : ∃ base, w.ownsRow base 75 33 v ps.length (cellsK ps)
/-- It stays where only rows of digests turn. -/
theorem TrO.turn {z : Int} {w w' : World} {t : Nat} {v : Value} {ps : List Pk} {B : List Nat} (h : TrO z w t v ps) (k : Kept B w w') (hB : ∀ b ∈ B, ∃ cs m, w.heap[b]? = some (.cells cs 41 m)) : TrO z w' t v ps := by
  have hne : ∀ (g : Nat) cs m (ty : TypeId), ty ≠ 41 → w.heap[g]? = some (.cells cs ty m) → g ∉ B := by
    intro g cs m ty ht h1 h2
    obtain ⟨cs2, m2, h3⟩ := hB g h2
    rw [h1] at h3
    injection h3 with h3
    injection h3 with _ h4 _
    exact ht h4
  obtain ⟨base, ho⟩ := h.own
  have hvb : ∀ g, v.ownBlock = some g → g ∉ B := by
    intro g hg
    rcases ho.2 with ⟨h9, _⟩ | ⟨g', cap', cur, e, hb, hgg, _⟩
    · subst h9; simp [Value.ownBlock] at hg
    · subst e
      simp only [Value.ownBlock, Option.some.injEq] at hg
      subst hg
      exact hne _ _ _ _ (by decide) hgg
  refine ⟨⟨k.heap h.tree.row (hne _ _ _ _ (by decide) h.tree.row), h.tree.wid, ?_, ⟨fun p hp => (h.tree.pk.ok p hp).kept k ?_, h.tree.pk.inc⟩⟩, h.nil, base, k.owns ho ?_⟩
  · obtain ⟨ao, cap, e, h1, h2, h3⟩ := h.tree.rd
    refine ⟨ao, cap, e, h1, h2, fun hp => ?_⟩
    obtain ⟨b, off, rfl, hc⟩ := h3 hp
    exact ⟨b, off, rfl, fun j u hj => k.cell (hc j u hj) (hvb b (by rw [e]; rfl))⟩
  · intro b hb cs m h9
    exact hne _ _ _ _ (by decide) h9 hb
  · exact fun g hg => hvb g hg
theorem TrO.old {z : Int} {w w' : World} {t : Nat} {v : Value} {ps : List Pk} (h : TrO z w t v ps) (k : Kept [] w w') : TrO z w' t v ps := h.turn k (by simp)
end Go.Proofs.YtecadmldnjlibaaDoor
namespace Go.Proofs.YtecadmldnjlibaaDoor
open Go.RowKit Go.BigFrame
set_option linter.unusedVariables false
set_option linter.unusedSimpArgs false

theorem lies_at {a b : Option Nat} {H k : Nat} (h : a = b ∨ a = some H) (hk : a = some k) : b = some k ∨ k = H := by
  rcases h with h | h
  · exact Or.inl (by rw [← h, hk])
  · right; rw [hk] at h; exact Option.some.inj h

theorem appendDL (w : World) (base : Nat) (v : Value) (ds ps : List (List Nat)) (ao : Option Addr) (n c : Nat) (h : w.ownsRow base 41 32 v ds.length (flatD ds)) (hr : RdD w (.slice ao n c) ps) (hl : ds.length + ps.length ≤ 1000000000000) (hb : base ≤ w.heap.size) :
    ∃ ao' cap' w1, (Builtin.append_ #[32, 32] 32 #[v, .slice ao n c]).run Tryd.prog w = .ok (.slice ao' (ds.length + ps.length) cap') w1 ∧
      w1.ownsRow base 41 32 (.slice ao' (ds.length + ps.length) cap') (ds ++ ps).length (flatD (ds ++ ps)) ∧ w.grownBy w1 v.ownBlock ∧ (∀ k, (Value.slice ao' (ds.length + ps.length) cap').ownBlock = some k → v.ownBlock = some k ∨ k = w.heap.size) := by
  obtain ⟨i0, hi, hz0, hz1, hz2⟩ := info_parts Tryd.infoD
  have hn := hr.nlP
  have hdg : ∀ d ∈ ps, d.length = 32 := fun d hd => (hr.dg hd).1
  rw [flatD_app, List.length_append]
  by_cases h0 : n = 0
  · subst h0
    have hp : ps = [] := List.eq_nil_of_length_eq_zero hn
    subst hp
    cases ao with
    | none =>
      have hrun := append_none (P := Tryd.prog) (w := w) base 32 32 41 i0 32 c Tryd.underlying32 hi v ds.length (flatD ds) h
      obtain ⟨ao', cap', rfl⟩ := owns_form h
      exact ⟨ao', cap', w, hrun, by simpa [flatD] using h, World.grownBy.refl _ _, fun k hk => Or.inl (by simpa using hk)⟩
    | some ad =>
      obtain ⟨v', w1, hrun, hown, hgrow, _, hat⟩ := run_append_own_at (P := Tryd.prog) w base 32 32 41 i0 (.agg (zb 32)) 32 32 Tryd.underlying32 hi hz0 hz1 hz2 (by show (zb 32).size = 32; exact zb_size 32) (by decide)
        v ds.length (flatD ds) h ad 0 c (flatD []) (by simp [flatD]) (by intro j u hj; simp [flatD] at hj) (flatD_one _) (by unfold maxLen; omega) (by omega) hb
      obtain ⟨ao', cap', rfl⟩ := owns_form hown
      exact ⟨ao', cap', w1, hrun, hown, hgrow, fun k hk => lies_at hat hk⟩
  · have hr' := hr
    obtain ⟨ao1, n1, c1, he, h1, h2, h3, h4, h5⟩ := hr'
    cases he
    obtain ⟨b, off, rfl, hc⟩ := h5 (by omega)
    obtain ⟨v', w1, hrun, hown, hgrow, _, hat⟩ := run_append_own_at (P := Tryd.prog) w base 32 32 41 i0 (.agg (zb 32)) 32 32 Tryd.underlying32 hi hz0 hz1 hz2 (by show (zb 32).size = 32; exact zb_size 32) (by decide)
      v ds.length (flatD ds) h ⟨b, off, none⟩ n c (flatD ps) (by rw [flatD_len hdg, hn]) hr.news (flatD_one _) (by unfold maxLen; omega) (by omega) hb
    subst h1
    obtain ⟨ao', cap', rfl⟩ := owns_form hown
    exact ⟨ao', cap', w1, hrun, hown, hgrow, fun k hk => lies_at hat hk⟩

end Go.Proofs.YtecadmldnjlibaaDoor
namespace Go.Proofs.YtecadmldnjlibaaDoor
open Go.RowKit Go.BigFrame
set_option linter.unusedVariables false
set_option linter.unusedSimpArgs false

set_option maxRecDepth 100000 in
theorem docNewT_ok (z : Int) (w : World) (hz : -9223372036854775808 ≤ z ∧ z ≤ 9223372036854775807) (hw : widthB z = true) :
    Calls Tryd.prog 10 #[.int .i64 z] w fun e w' => e = .returned (.int .i64 0) ∧ Kept [] w w' := by
  have HW := hide (rwidth_any z w hz)
  rw [hw] at HW
  clear hw
  go_enter Tryd.func10, Tryd.ntmps10
  go_wp2_with fail
  refine (unhide HW).mono ?_
  rintro e w0 ⟨rfl, rfl⟩
  go_wp2_with fail
  go_ret
  exact ⟨rfl, Kept.refl _ _⟩

set_option maxRecDepth 100000 in
theorem docNewT_bad (z : Int) (w : World) (hz : -9223372036854775808 ≤ z ∧ z ≤ 9223372036854775807) (hw : widthB z = false) :
    Calls Tryd.prog 10 #[.int .i64 z] w fun e w' => e = .returned (.int .i64 1) ∧ Kept [] w w' := by
  have HW := hide (rwidth_any z w hz)
  rw [hw] at HW
  clear hw
  go_enter Tryd.func10, Tryd.ntmps10
  go_wp2_with fail
  refine (unhide HW).mono ?_
  rintro e w0 ⟨rfl, rfl⟩
  go_wp2_with fail
  go_ret
  exact ⟨rfl, Kept.refl _ _⟩

/-- What DocAppend answers. -/
def DoA (z : Int) (bs ls : List (List Nat)) (w : World) (e : Ending) (w' : World) : Prop :=
  (ls.all (formB z) = true → ∃ u, e = .returned (.tuple #[u, .int .i64 0]) ∧ w'.ownsRow w.heap.size 41 32 u (bs ++ ls).length (flatD (bs ++ ls))) ∧
  (ls.all (formB z) = false → e = .returned (.tuple #[.slice none 0 0, .int .i64 3])) ∧ Kept [] w w'

set_option maxRecDepth 100000 in
set_option maxHeartbeats 1000000 in
theorem docAppT_any (z : Int) (bv lv : Value) (bs ls : List (List Nat)) (w : World) (hz : -9223372036854775808 ≤ z ∧ z ≤ 9223372036854775807) (hb : RdD w bv bs) (hl : RdD w lv ls) (h400 : bs.length + ls.length ≤ 400) :
    Calls Tryd.prog 13 #[.int .i64 z, bv, lv] w (DoA z bs ls w) := by
  have HL := hide hl
  have HBS := hide hb
  obtain ⟨ao, len, cap, rfl, h1, h2, h3, h4, h5⟩ := hl
  obtain ⟨bo, bn, bc, rfl, b1, b2, b3, b4, b5⟩ := hb
  have HLN := hide h1
  have HBN := hide b1
  rw [h1, b1] at h400
  clear h4 h5 b4 b5 h1 b1
  obtain ⟨E, hE⟩ : ∃ E, ls.all (formB z) = E := ⟨_, rfl⟩
  have HE := hide hE
  clear hE
  go_enter Tryd.func13, Tryd.ntmps13
  go_wp2_with fail
  go_loopw [13] (fun t13 wr => ∃ (i : Nat), i ≤ len ∧ t13 = .int .i64 i ∧ Hid ((ls.take i).all (formB z) = true) ∧ Hid (Kept [] w wr)) (fun t _ => len - (intOf t).toNat)
  case atStart => exact ⟨0, Nat.zero_le _, rfl, hide (by simp), hide (Kept.refl _ _)⟩
  case round =>
    obtain ⟨j, hj, rfl, HAJ, HKJ⟩ := hrel
    by_cases hjl : j < len
    · have hjl' : (j : Int) < len := by omega
      have hjl2 : j < ls.length := by rw [unhide HLN]; exact hjl
      obtain ⟨ra, rl, rc, re, r1, r2, r3, r4, r5⟩ := unhide HL
      cases re
      obtain ⟨b, o, rfl, hcell⟩ := r5 (by omega)
      have HD := hide (r4 (ls.getD j []) (by rw [List.getD_eq_getElem?_getD, List.getElem?_eq_getElem hjl2]; exact List.getElem_mem hjl2))
      have HRG := hide (fun u v hv => (unhide HKJ).cell (hcell j hjl u v hv) (by simp) : wr.rangeAt b (o + j * 32) ((ls.getD j []).map Go.Proofs.YtecadmldnjlibaaDoor.u8))
      have HN := hide (by rw [List.take_succ_eq_append_getElem hjl2, List.all_append, unhide HAJ, List.getD_eq_getElem?_getD, List.getElem?_eq_getElem hjl2]; simp : (ls.take (j + 1)).all (formB z) = formB z (ls.getD j []))
      have HM := hide (fun (h : formB z (ls.getD j []) = false) => by
        rw [← unhide HE, List.all_eq_false]
        exact ⟨ls.getD j [], by rw [List.getD_eq_getElem?_getD, List.getElem?_eq_getElem hjl2]; exact List.getElem_mem hjl2, by rw [h]; decide⟩ : formB z (ls.getD j []) = false → E = false)
      clear hcell r4 r5 r1 r2 r3 hjl2
      obtain ⟨d, hd⟩ : ∃ d, ls.getD j [] = d := ⟨_, rfl⟩
      rw [hd] at HD HRG HN HM
      clear hd
      have hdl := (unhide HD).1
      have HSZ := hide (by rw [brow_size, hdl]; exact Tryd.size_dig : (Tryd.prog.info? 41).map (·.size) = some (brow d).size)
      have HNW := hide (setRow_heap (wr.alloc (.cells (zb 32) 41)) wr.heap.size (zb 32) (brow d) 41 (0, 0) (heap_alloc_new _ _))
      have HKN := hide (((unhide HKJ).alloc (.cells (zb 32) 41)).setRow (g := wr.heap.size) (Or.inr (unhide HKJ).size) (brow d))
      go_wp2_with (first
        | (refine wpList_load_mid rfl 41 (.tmp 15) rfl b (o + j * 32) rfl (d.map Go.Proofs.YtecadmldnjlibaaDoor.u8) _ (unhide HRG) Tryd.underlying41 rfl (by rw [List.length_map, hdl]; exact Tryd.size_dig) ?_)
        | (rw [zb32]; refine wpList_store_row rfl 41 (.tmp 9) _ rfl wr.heap.size (brow d) rfl rfl _ (zb 32) (heap_alloc_new _ _) (unhide HSZ) (by rw [zb_size, brow_size, hdl]) (brow_one _) ?_)
        | (refine wpList_load_row rfl 41 (.tmp 9) rfl wr.heap.size rfl _ (brow d) (0, 0) _ (unhide HNW) Tryd.underlying41 rfl (unhide HSZ) ?_))
      refine Calls.mono (docForm_any z d _ hz hdl (unhide HD).2) ?_
      rintro e w4 ⟨rfl, k4⟩
      have HK4 := hide ((unhide HKN).trans k4 (by simp))
      clear k4
      cases hf : formB z d with
      | true =>
        rw [hf] at HN
        clear hf
        go_wp2
        go_roundw
        case rel => exact ⟨j + 1, by omega, by go_num, HN, HK4⟩
        case measure => simp [intOf]; omega
      | false =>
        have HF := hide (unhide HM hf)
        clear hf
        go_wp2
        exact bodyPost_ret (results_tmp2 rfl _ _ _) rfl ⟨fun h => absurd h (by rw [unhide HE, unhide HF]; decide), fun _ => rfl, unhide HK4⟩
    · have hjl' : ¬ (j : Int) < len := by omega
      have hje : len = j := by omega
      subst hje
      rw [← unhide HLN, List.take_length] at HAJ
      obtain ⟨W, hW⟩ : ∃ W, W = wr := ⟨_, rfl⟩
      subst hW
      obtain ⟨i0, hi, hz0, hz1, hz2⟩ := info_parts Tryd.infoD
      obtain ⟨c0, hc0⟩ : ∃ c0, bn + len = c0 := ⟨_, rfl⟩
      obtain ⟨w5, hmk, hmo, hmg⟩ := run_makeSlice_owned (P := Tryd.prog) (w := W) W.heap.size 32 41 i0 (.agg (zb 32)) 32 Tryd.underlying32 hi hz0 hz1 .i64 .i64 c0 (by omega) (by rw [hz2]; omega) (by unfold maxLen; omega) (Nat.le_refl _)
      have hsum : (bn : Int) + (len : Int) = (c0 : Int) := by omega
      have hsw : IntKind.i64.wrap ((bn : Int) + (len : Int)) = (c0 : Int) := by simp [IntKind.wrap, IntKind.signed, IntKind.bits]; omega
      have HMO := hide hmo
      have HK5 := hide ((Kept.refl [] W).grown hmg (by simp))
      have HB5 := hide ((unhide HBS).old ((unhide HKJ).trans (unhide HK5) (by simp)))
      have HSZW := hide (unhide HKJ).size
      clear hmo hmg hi hz0 hz1 hz2
      go_wp2_with (first
        | (simp only [hsw])
        | (at_builtin; refine wpList_appendD rfl (.tmp 28) (.tmp 29) rfl rfl w5 W.heap.size (.slice (some ⟨W.heap.size, 0, none⟩) 0 c0) [] bs bo bn bc (by exact unhide HMO) (by exact unhide HB5) (by simp only [List.length_nil, Nat.zero_add, unhide HBN]; omega) (unhide HK5).size rfl rfl ?_; intro aa ac wa HOa HGa; simp only [List.nil_append, List.length_nil, Nat.zero_add] at HOa ⊢; have HKa := hide ((unhide HK5).grown (unhide HGa) (by intro k9 hk9; right; simp [Value.ownBlock] at hk9; omega)); have HLa := hide ((unhide HL).old ((unhide HKJ).trans (unhide HKa) (by simp))); clear HGa HMO)
        | (at_builtin; refine wpList_appendD rfl (.tmp 31) (.tmp 32) rfl rfl wa W.heap.size (.slice aa bs.length ac) bs ls ao len cap (by exact unhide HOa) (by exact unhide HLa) (by simp only [unhide HLN, unhide HBN]; omega) (unhide HKa).size rfl rfl ?_; intro ab ac2 wb HOb HGb; have HKb := hide ((unhide HKa).grown (unhide HGb) (by intro k9 hk9; right; have h9 := (unhide HOa).lt k9 hk9; omega)); clear HGb HKa HOa HLa))
      exact bodyPost_ret (results_tmp2 rfl _ _ _) rfl ⟨fun _ => ⟨_, rfl, owns_baseK (unhide HOb) (unhide HSZW)⟩, fun h => absurd h (by rw [unhide HAJ]; decide), (unhide HKJ).trans (unhide HKb) (by simp)⟩
end Go.Proofs.YtecadmldnjlibaaDoor
namespace Go.Proofs.YtecadmldnjlibaaDoor
open Go.RowKit Go.BigFrame
set_option linter.unusedVariables false
set_option linter.unusedSimpArgs false

/-- A beginning of an owned row of digests, with all its room, is owned. -/
theorem owns_takeD {w : World} {base : Nat} {a : Option Addr} {m c : Nat} {gs : List (List Nat)} (h : w.ownsRow base 41 32 (.slice a m c) gs.length (flatD gs)) (hd : ∀ d ∈ gs, d.length = 32) (n : Nat) (hn : n ≤ gs.length) : w.ownsRow base 41 32 (.slice a n c) (gs.take n).length (flatD (gs.take n)) := by
  have hl : (gs.take n).length = n := by rw [List.length_take]; omega
  have hf : (flatD (gs.take n)).length = n * 32 := by rw [flatD_len (fun d h => hd d (List.mem_of_mem_take h)), hl]
  refine ⟨by rw [hf, hl], ?_⟩
  rcases h.2 with ⟨h9, h0⟩ | ⟨g, cap, cur, h1, h2, h3, h4, h5, h6, h7⟩
  · cases h9
    exact .inl ⟨by rw [show n = 0 by omega], by omega⟩
  · cases h1
    refine .inr ⟨g, c, cur, by rw [hl], h2, h3, by omega, h5, h6, ?_⟩
    have e1 : flatD gs = flatD (gs.take n) ++ flatD (gs.drop n) := by rw [← flatD_app, List.take_append_drop]
    have e2 : cur.toList.take (n * 32) = (cur.toList.take (gs.length * 32)).take (n * 32) := by rw [List.take_take, Nat.min_eq_left (by omega)]
    rw [hl, e2, h7, e1, ← hf, List.take_left]
/-- Where a row lies behind an append: where it lay, or in memory that is new. -/
def Wnt (w : World) (v v' : Value) : Prop := (∃ a n m c, v = .slice a n c ∧ v' = .slice a m c) ∨ ∃ g, v'.ownBlock = some g ∧ w.heap.size ≤ g
/-- A digest behind a row that is owned: both rows are owned then. -/
theorem appendTwoD (w : World) (base : Nat) (v : Value) (ds : List (List Nat)) (X : List Nat) (g0 : Nat) (h : w.ownsRow base 41 32 v ds.length (flatD ds)) (hd : ∀ d ∈ ds, d.length = 32) (hnew : w.heap[g0]? = some (.cells (brow X) 41 (0, 0))) (hX : Dg X) (hl : ds.length ≤ 1000000) (hb : base ≤ w.heap.size) :
    ∃ ao' cap' w1, (Builtin.append_ #[32, 32] 32 #[v, .slice (some ⟨g0, 0, none⟩) 1 1]).run Tryd.prog w = .ok (.slice ao' (ds.length + 1) cap') w1 ∧
      w1.ownsRow base 41 32 (.slice ao' (ds.length + 1) cap') (ds ++ [X]).length (flatD (ds ++ [X])) ∧ w1.ownsRow base 41 32 v ds.length (flatD ds) ∧ w.grownBy w1 v.ownBlock ∧ Wnt w v (.slice ao' (ds.length + 1) cap') := by
  obtain ⟨i0, hi, hz0, hz1, hz2⟩ := info_parts Tryd.infoD
  have hfX : (flatD [X]).length = 1 * 32 := by rw [flatD_len (by intro d hd; rw [List.mem_singleton] at hd; subst hd; exact hX.1)]; rfl
  have hnews := (RdD.oneP hnew hX).news
  have hfa : flatD (ds ++ [X]) = flatD ds ++ flatD [X] := flatD_app _ _
  have hla : (ds ++ [X]).length = ds.length + 1 := by simp
  rw [hfa, hla]
  rcases h.2 with ⟨rfl, h0⟩ | ⟨g, cap, cur, rfl, hbg, hg, hc, hm, hs, ht⟩
  · obtain ⟨v', w1, hrun, hown, hgrow, _, hat⟩ := run_append_own_at (P := Tryd.prog) w base 32 32 41 i0 (.agg (zb 32)) 32 32 Tryd.underlying32 hi hz0 hz1 hz2 (by show (zb 32).size = 32; exact zb_size 32) (by decide)
      _ ds.length (flatD ds) h ⟨g0, 0, none⟩ 1 1 (flatD [X]) hfX hnews (flatD_one _) (by unfold maxLen; omega) (by omega) hb
    obtain ⟨ao', cap', rfl⟩ := owns_form hown
    have hbs : ds = [] := List.eq_nil_of_length_eq_zero h0
    subst hbs
    refine ⟨ao', cap', w1, hrun, hown, World.ownsRow_nil _ _ _ _, hgrow, ?_⟩
    rcases hown.2 with ⟨_, h9⟩ | ⟨g, cap, cur, h9, _⟩
    · simp at h9
    · rcases hat with h8 | h8
      · simp only [Value.slice.injEq] at h9
        obtain ⟨rfl, _⟩ := h9
        simp [Value.ownBlock] at h8
      · exact .inr ⟨_, h8, Nat.le_refl _⟩
  · by_cases hroom : ds.length + 1 ≤ cap
    · obtain ⟨w1, hrun, hown, hgrow⟩ := run_append_own_spare (P := Tryd.prog) w base 32 32 41 i0 32 Tryd.underlying32 hi hz1 g ds.length cap (flatD ds) h ⟨g0, 0, none⟩ 1 1 (flatD [X]) hfX hnews (flatD_one _) hroom
      have hnew2 : w1.ownsRow base 41 32 (.slice (some ⟨g, 0, none⟩) (ds.length + 1) cap) (ds ++ [X]).length (flatD (ds ++ [X])) := by rw [hfa, hla]; exact hown
      have h8 := owns_takeD hnew2 (by intro d hd'; rcases List.mem_append.1 hd' with h | h; exact hd d h; rw [List.mem_singleton] at h; subst h; exact hX.1) ds.length (by simp)
      rw [List.take_left] at h8
      exact ⟨_, _, w1, hrun, hown, h8, hgrow, .inl ⟨_, _, _, _, rfl, rfl⟩⟩
    · obtain ⟨v', w1, hrun, hown, hgrow⟩ := run_append_arg_grows (P := Tryd.prog) w 32 32 41 i0 (.agg (zb 32)) 32 32 Tryd.underlying32 hi hz0 hz1 hz2 (by show (zb 32).size = 32; exact zb_size 32) (by decide)
        ⟨g, 0, none⟩ ds.length cap (flatD ds) (flatD_len hd) (fun j u hj => h.cells (g := g) rfl j u hj) ⟨g0, 0, none⟩ 1 1 (flatD [X]) hfX hnews (by omega) (by unfold maxLen; omega) (by omega)
      obtain ⟨ao', cap', rfl⟩ := owns_form hown
      have hw : Wnt w (.slice (some ⟨g, 0, none⟩) ds.length cap) (.slice ao' (ds.length + 1) cap') := by
        rcases hown.2 with ⟨_, h8⟩ | ⟨g', cap2, cur2, h9, h8, _⟩
        · omega
        · simp only [Value.slice.injEq] at h9
          obtain ⟨rfl, _⟩ := h9
          exact .inr ⟨_, rfl, h8⟩
      exact ⟨ao', cap', w1, hrun, owns_baseK hown hb, ((Kept.refl [] w).grown hgrow (by simp)).owns h (by simp), ⟨hgrow.os, hgrow.tape, hgrow.output, hgrow.size, fun k hk _ => hgrow.block k hk (by simp)⟩, hw⟩
theorem wpList_appendTwoD {ops : Array Oper} {rest : List Oper} {o : Oper} {a : Act} {Q : Exit → Act → World → Prop} (hgd : o.guard = none) (s x : Operand)
    (ho : o.op = .call { callee := .builtin .append, args := #[s, x], argTypes := #[32, 32] }) (hty : o.type = 32)
    (w : World) (base : Nat) (v : Value) (ds : List (List Nat)) (X : List Nat) (g0 : Nat) (h : w.ownsRow base 41 32 v ds.length (flatD ds)) (hd : ∀ d ∈ ds, d.length = 32) (hnew : w.heap[g0]? = some (.cells (brow X) 41 (0, 0))) (hX : Dg X) (hl : ds.length ≤ 1000000) (hb : base ≤ w.heap.size)
    (hs : a.eval s = v) (hx : a.eval x = .slice (some ⟨g0, 0, none⟩) 1 1)
    (hK : ∀ ao' cap' w1, Hid (w1.ownsRow base 41 32 (.slice ao' (ds.length + 1) cap') (ds ++ [X]).length (flatD (ds ++ [X]))) → Hid (w1.ownsRow base 41 32 v ds.length (flatD ds)) → Hid (w.grownBy w1 v.ownBlock) → Hid (Wnt w v (.slice ao' (ds.length + 1) cap')) →
      wpList Tryd.prog ops Q rest (a.put o.dst (.slice ao' (ds.length + 1) cap')) w1) :
    wpList Tryd.prog ops Q (o :: rest) a w := by
  obtain ⟨ao', cap', w1, hrun, h2, h3, h4, h5⟩ := appendTwoD w base v ds X g0 h hd hnew hX hl hb
  refine wpList_plain hgd fun K hK' => ?_
  unfold Oper.wp execOp
  simp only [ho, hty, resolve, invoke, builtin, Sem.run_bind, Sem.run_pure, Result.andThen_ok, List.map_toArray, List.map_cons, List.map_nil, hs, hx, hrun]
  exact hK' _ _ (hK ao' cap' w1 h2 h3 h4 h5)

/-- Rows of unlike types lie in unlike blocks. -/
theorem own_ne {w : World} {B B' e e' s s' n n' : Nat} {v v' : Value} {xs xs' : List Value} (h : w.ownsRow B e s v n xs) (h' : w.ownsRow B' e' s' v' n' xs') (hne : e ≠ e') : ∀ b, v.ownBlock = some b → v'.ownBlock ≠ some b := by
  intro b hb hb'
  rcases h.2 with ⟨h9, _⟩ | ⟨g, cap, cur, h1, _, h3, _⟩
  · subst h9; simp [Value.ownBlock] at hb
  · rcases h'.2 with ⟨h9, _⟩ | ⟨g', cap', cur', h1', _, h3', _⟩
    · subst h9; simp [Value.ownBlock] at hb'
    · subst h1 h1'
      simp only [Value.ownBlock, Option.some.injEq] at hb hb'
      subst hb
      subst hb'
      rw [h3] at h3'
      injection h3' with h3'
      injection h3' with _ h4 _
      exact hne h4
theorem grown_keeps {w w1 : World} {row : Option Nat} (h : w.grownBy w1 row) : Kept row.toList w w1 := (Kept.refl row.toList w).grown h (fun k hk => Or.inl (by rw [hk]; simp))
theorem keeps_owns {w w1 : World} {row : Option Nat} {B e s n : Nat} {v : Value} {xs : List Value} (h : w.grownBy w1 row) (ho : w.ownsRow B e s v n xs) (hne : ∀ b, v.ownBlock = some b → row ≠ some b) : w1.ownsRow B e s v n xs :=
  (grown_keeps h).owns ho (by
    intro b hb hm
    cases row with
    | none => simp at hm
    | some x => simp at hm; subst hm; exact hne b hb rfl)

theorem Tryd.infoDs : (Tryd.prog.info? 32).map (fun i => (i.zero, i.size, i.bytes)) = some (some (.slice none 0 0), 1, 24) := by kernel_rfl
/-- Two lists behind a row of lists of digests that is owned. -/
theorem push2 (w : World) (base : Nat) (v : Value) (xs : List Value) (x y : Value) (H : Nat) (h : w.ownsRow base 32 1 v xs.length xs) (hnew : w.heap[H]? = some (.cells #[x, y] 32 (0, 0))) (hx : x.oneCell' = true) (hy : y.oneCell' = true) (hl : xs.length ≤ 1000000) (hb : base ≤ w.heap.size) :
    ∃ g cap w1, (Builtin.append_ #[31, 31] 31 #[v, .slice (some ⟨H, 0, none⟩) 2 2]).run Tryd.prog w = .ok (.slice (some ⟨g, 0, none⟩) (xs.length + 2) cap) w1 ∧
      w1.ownsRow base 32 1 (.slice (some ⟨g, 0, none⟩) (xs.length + 2) cap) (xs.length + 2) (xs ++ [x, y]) ∧ w.grownBy w1 v.ownBlock ∧ (v.ownBlock = some g ∨ g = w.heap.size) := by
  obtain ⟨i0, hi, hz0, hz1, hz2⟩ := info_parts Tryd.infoDs
  obtain ⟨g, cap, w1, hr, hown, hgrow, hat, hlt⟩ := run_append_lies (P := Tryd.prog) w 31 31 base 32 i0 (.slice none 0 0) 1 24 Tryd.underlying31 hi hz0 hz1 hz2 rfl (by decide)
    v xs.length xs h ⟨H, 0, none⟩ 2 2 [x, y] rfl (World.news_of_block hnew) (by intro u hu; simp only [List.mem_cons, List.not_mem_nil, or_false] at hu; rcases hu with rfl | rfl <;> assumption) (by decide) (by unfold maxLen; omega) (by omega) hb _ rfl
  exact ⟨g, cap, w1, hr, hown, hgrow, hat⟩
theorem wpList_push2 {ops : Array Oper} {rest : List Oper} {o : Oper} {a : Act} {Q : Exit → Act → World → Prop} (hgd : o.guard = none) (s x : Operand)
    (ho : o.op = .call { callee := .builtin .append, args := #[s, x], argTypes := #[31, 31] }) (hty : o.type = 31)
    (w : World) (base : Nat) (v : Value) (xs : List Value) (y z : Value) (H : Nat) (h : w.ownsRow base 32 1 v xs.length xs) (hnew : w.heap[H]? = some (.cells #[y, z] 32 (0, 0))) (hy : y.oneCell' = true) (hz : z.oneCell' = true) (hl : xs.length ≤ 1000000) (hb : base ≤ w.heap.size)
    (hs : a.eval s = v) (hx : a.eval x = .slice (some ⟨H, 0, none⟩) 2 2)
    (hK : ∀ g cap w1, Hid (w1.ownsRow base 32 1 (.slice (some ⟨g, 0, none⟩) (xs.length + 2) cap) (xs.length + 2) (xs ++ [y, z])) → Hid (w.grownBy w1 v.ownBlock) → Hid (v.ownBlock = some g ∨ g = w.heap.size) →
      wpList Tryd.prog ops Q rest (a.put o.dst (.slice (some ⟨g, 0, none⟩) (xs.length + 2) cap)) w1) :
    wpList Tryd.prog ops Q (o :: rest) a w := by
  obtain ⟨g, cap, w1, hrun, h2, h3, h4⟩ := push2 w base v xs y z H h hnew hy hz hl hb
  refine wpList_plain hgd fun K hK' => ?_
  unfold Oper.wp execOp
  simp only [ho, hty, resolve, invoke, builtin, Sem.run_bind, Sem.run_pure, Result.andThen_ok, List.map_toArray, List.map_cons, List.map_nil, hs, hx, hrun]
  exact hK' _ _ (hK g cap w1 h2 h3 h4)

/-- Lists of digests that were kept: the row of lists, and each list in memory of its own. -/
structure KM (B : Nat) (w : World) (kv : Value) (rows : List (Value × List (List Nat))) : Prop where
  hdr : w.ownsRow B 32 1 kv rows.length (rows.map (·.1))
  own : ∀ r ∈ rows, w.ownsRow B 41 32 r.1 r.2.length (flatD r.2)
  dg : ∀ r ∈ rows, ∀ d ∈ r.2, Dg d
  dif : ∀ (i j : Nat) (r s : Value × List (List Nat)), rows[i]? = some r → rows[j]? = some s → i ≠ j → ∀ b, r.1.ownBlock = some b → s.1.ownBlock ≠ some b
theorem KM.old {B : Nat} {w w' : World} {kv : Value} {rows : List (Value × List (List Nat))} (h : KM B w kv rows) (k : Kept [] w w') : KM B w' kv rows :=
  ⟨k.owns h.hdr (by simp), fun r hr => k.owns (h.own r hr) (by simp), h.dg, h.dif⟩
theorem KM.nil (B : Nat) (w : World) : KM B w (.slice none 0 0) [] := ⟨World.ownsRow_nil _ _ _ _, by simp, by simp, by intro i j r s hi; simp at hi⟩
/-- Two more. -/
theorem KM.push {B : Nat} {w w1 : World} {kv kv' : Value} {rows : List (Value × List (List Nat))} {p q : Value} {ps qs : List (List Nat)} (h : KM B w kv rows)
    (hp : w.ownsRow B 41 32 p ps.length (flatD ps)) (hq : w.ownsRow B 41 32 q qs.length (flatD qs)) (dp : ∀ d ∈ ps, Dg d) (dq : ∀ d ∈ qs, Dg d)
    (np : ∀ r ∈ rows, ∀ b, p.ownBlock = some b → r.1.ownBlock ≠ some b) (nq : ∀ r ∈ rows, ∀ b, q.ownBlock = some b → r.1.ownBlock ≠ some b) (npq : ∀ b, p.ownBlock = some b → q.ownBlock ≠ some b)
    (hg : w.grownBy w1 kv.ownBlock) (ho : w1.ownsRow B 32 1 kv' (rows.length + 2) (rows.map (·.1) ++ [p, q])) : KM B w1 kv' (rows ++ [(p, ps), (q, qs)]) := by
  have hk : ∀ {n : Nat} {v : Value} {xs : List Value}, w.ownsRow B 41 32 v n xs → w1.ownsRow B 41 32 v n xs := fun h9 => keeps_owns hg h9 (own_ne h9 h.hdr (by decide))
  refine ⟨by simpa using ho, ?_, ?_, ?_⟩
  · intro r hr
    rcases List.mem_append.1 hr with hr | hr
    · exact hk (h.own r hr)
    · simp only [List.mem_cons, List.not_mem_nil, or_false] at hr
      rcases hr with rfl | rfl
      · exact hk hp
      · exact hk hq
  · intro r hr
    rcases List.mem_append.1 hr with hr | hr
    · exact h.dg r hr
    · simp only [List.mem_cons, List.not_mem_nil, or_false] at hr
      rcases hr with rfl | rfl
      · exact dp
      · exact dq
  · have key : ∀ (i : Nat) (r : Value × List (List Nat)), (rows ++ [(p, ps), (q, qs)])[i]? = some r → (rows[i]? = some r ∧ r ∈ rows ∧ i < rows.length) ∨ (i = rows.length ∧ r = (p, ps)) ∨ (i = rows.length + 1 ∧ r = (q, qs)) := by
      intro i r hi
      rcases Nat.lt_or_ge i rows.length with h9 | h9
      · rw [List.getElem?_append_left h9] at hi
        exact Or.inl ⟨hi, List.mem_of_getElem? hi, h9⟩
      · rw [List.getElem?_append_right h9] at hi
        rcases (by omega : i - rows.length = 0 ∨ i - rows.length = 1 ∨ 2 ≤ i - rows.length) with h8 | h8 | h8
        · rw [h8] at hi
          simp at hi
          exact Or.inr (Or.inl ⟨by omega, hi.symm⟩)
        · rw [h8] at hi
          simp at hi
          exact Or.inr (Or.inr ⟨by omega, hi.symm⟩)
        · rw [List.getElem?_eq_none (by simp; omega)] at hi
          simp at hi
    intro i j r s hi hj hij b hb hs
    rcases key i r hi with ⟨h1, h1m, h1l⟩ | ⟨h1, rfl⟩ | ⟨h1, rfl⟩ <;> rcases key j s hj with ⟨h2, h2m, h2l⟩ | ⟨h2, rfl⟩ | ⟨h2, rfl⟩
    · exact h.dif i j r s h1 h2 hij b hb hs
    · exact np r h1m b hs hb
    · exact nq r h1m b hs hb
    · exact np s h2m b hb hs
    · omega
    · exact npq b hb hs
    · exact nq s h2m b hb hs
    · exact npq b hs hb
    · omega
/-- How the row that is grown lies to one that was kept: elsewhere, or the kept one is its beginning. -/
def Pre (r : Value × List (List Nat)) (gv : Value) (gs : List (List Nat)) : Prop := (∀ b, r.1.ownBlock = some b → gv.ownBlock ≠ some b) ∨ ∃ a m c, r.1 = .slice a r.2.length c ∧ gv = .slice a m c ∧ r.2 = gs.take r.2.length ∧ r.2.length ≤ gs.length
structure GM (B : Nat) (w : World) (kv : Value) (rows : List (Value × List (List Nat))) (gv : Value) (gs : List (List Nat)) : Prop where
  km : KM B w kv rows
  gown : w.ownsRow B 41 32 gv gs.length (flatD gs)
  gdg : ∀ d ∈ gs, Dg d
  pre : ∀ r ∈ rows, Pre r gv gs
theorem GM.start {B : Nat} {w : World} {kv : Value} {rows : List (Value × List (List Nat))} {k : Nat} {r : Value × List (List Nat)} (h : KM B w kv rows) (hr : rows[k]? = some r) : GM B w kv rows r.1 r.2 := by
  have hm := List.mem_of_getElem? hr
  refine ⟨h, h.own r hm, h.dg r hm, fun s hs => ?_⟩
  obtain ⟨j, hj⟩ := List.mem_iff_getElem?.1 hs
  by_cases hjk : j = k
  · subst hjk
    rw [hr] at hj
    injection hj with hj
    subst hj
    obtain ⟨a, c, e⟩ := owns_form (h.own r hm)
    exact Or.inr ⟨a, _, c, e, e, by rw [List.take_length], Nat.le_refl _⟩
  · exact Or.inl (fun b hb => h.dif j k s r hj hr hjk b hb)
theorem GM.old {B : Nat} {w w' : World} {kv gv : Value} {rows : List (Value × List (List Nat))} {gs : List (List Nat)} (h : GM B w kv rows gv gs) (k : Kept [] w w') : GM B w' kv rows gv gs :=
  ⟨h.km.old k, k.owns h.gown (by simp), h.gdg, h.pre⟩
theorem GM.push {B : Nat} {w w1 : World} {kv gv gv' : Value} {rows : List (Value × List (List Nat))} {gs : List (List Nat)} {X : List Nat} (h : GM B w kv rows gv gs) (hX : Dg X) (h1 : w1.ownsRow B 41 32 gv' (gs ++ [X]).length (flatD (gs ++ [X]))) (h2 : w1.ownsRow B 41 32 gv gs.length (flatD gs)) (hg : w.grownBy w1 gv.ownBlock) (hw : Wnt w gv gv') : GM B w1 kv rows gv' (gs ++ [X]) := by
  refine ⟨⟨keeps_owns hg h.km.hdr (own_ne h.km.hdr h.gown (by decide)), fun r hr => ?_, h.km.dg, h.km.dif⟩, h1, ?_, fun r hr => ?_⟩
  · rcases h.pre r hr with h9 | ⟨a, m, c, e1, e2, e3, e4⟩
    · exact keeps_owns hg (h.km.own r hr) h9
    · have h8 := owns_takeD (a := a) (m := m) (c := c) (by rw [← e2]; exact h2) (fun d hd => (h.gdg d hd).1) r.2.length e4
      rw [← e3] at h8
      rw [e1]
      exact h8
  · intro d hd
    rcases List.mem_append.1 hd with hd | hd
    · exact h.gdg d hd
    · rw [List.mem_singleton] at hd; subst hd; exact hX
  · rcases hw with ⟨a9, n9, m9, c9, e8, e9⟩ | ⟨g9, e9, hge⟩
    · rcases h.pre r hr with h9 | ⟨a, m, c, e1, e2, e3, e4⟩
      · refine Or.inl (fun b hb => ?_)
        have := h9 b hb
        rw [e8] at this
        rw [e9]
        cases a9 with
        | none => simp [Value.ownBlock]
        | some x => simpa [Value.ownBlock] using this
      · rw [e2] at e8
        simp only [Value.slice.injEq] at e8
        obtain ⟨rfl, _, rfl⟩ := e8
        exact Or.inr ⟨a, m9, c, e1, e9, by rw [List.take_append_of_le_length e4]; exact e3, by simp; omega⟩
    · refine Or.inl (fun b hb e => ?_)
      rw [e9] at e
      injection e with e
      subst e
      have := ((h.km.own r hr).lt g9 hb).2
      omega
end Go.Proofs.YtecadmldnjlibaaDoor
namespace Go.Proofs.YtecadmldnjlibaaDoor
open Go.RowKit Go.BigFrame
set_option linter.unusedVariables false
set_option linter.unusedSimpArgs false

/-- The slice value v reads as these growths. -/
def RdG (w : World) (v : Value) (gs : List (Int × List (List Nat))) : Prop :=
  ∃ (ao : Option Addr) (len cap : Nat) (V : Nat → Value), v = .slice ao len cap ∧ gs.length = len ∧ len ≤ cap ∧ cap ≤ 9223372036854775807 ∧
    (∀ i, i < len → (-9223372036854775808 ≤ (gs.getD i (0, [])).1 ∧ (gs.getD i (0, [])).1 ≤ 9223372036854775807) ∧ RdD w (V i) (gs.getD i (0, [])).2 ∧ (gs.getD i (0, [])).2.length ≤ 1048576) ∧
    (0 < len → ∃ b off, ao = some ⟨b, off, none⟩ ∧ ∀ i, i < len → w.rangeAt b (off + i * 2) [.int .i64 (gs.getD i (0, [])).1, V i])
theorem RdG.old {w0 w : World} {v : Value} {gs : List (Int × List (List Nat))} (h : RdG w0 v gs) (k : Kept [] w0 w) : RdG w v gs := by
  obtain ⟨ao, len, cap, V, rfl, h1, h2, h3, h4, h5⟩ := h
  refine ⟨ao, len, cap, V, rfl, h1, h2, h3, fun i hi => ⟨(h4 i hi).1, (h4 i hi).2.1.old k, (h4 i hi).2.2⟩, fun hp => ?_⟩
  obtain ⟨b, off, rfl, hc⟩ := h5 hp
  exact ⟨b, off, rfl, fun i hi j u hu => k.cell (hc i hi j u hu) (by simp)⟩

theorem Tryd.infoPT : (Tryd.prog.info? 24).map (fun i => (i.zero, i.size, i.bytes)) = some (some (.pointer none), 1, 8) := by kernel_rfl
theorem pushPT (w : World) (base : Nat) (v : Value) (xs : List Value) (x : Value) (H : Nat) (h : w.ownsRow base 24 1 v xs.length xs) (hnew : w.heap[H]? = some (.cells #[x] 24 (0, 0))) (hx : x.oneCell' = true) (hl : xs.length ≤ 1000000) (hb : base ≤ w.heap.size) :
    ∃ g cap w1, (Builtin.append_ #[30, 30] 30 #[v, .slice (some ⟨H, 0, none⟩) 1 1]).run Tryd.prog w = .ok (.slice (some ⟨g, 0, none⟩) (xs.length + 1) cap) w1 ∧
      w1.ownsRow base 24 1 (.slice (some ⟨g, 0, none⟩) (xs.length + 1) cap) (xs.length + 1) (xs ++ [x]) ∧ w.grownBy w1 v.ownBlock := by
  obtain ⟨i0, hi, hz0, hz1, hz2⟩ := info_parts Tryd.infoPT
  obtain ⟨g, cap, w1, hr, hown, hgrow, hat, hlt⟩ := run_append_lies (P := Tryd.prog) w 30 30 base 24 i0 (.pointer none) 1 8 Tryd.underlying30 hi hz0 hz1 hz2 rfl (by decide)
    v xs.length xs h ⟨H, 0, none⟩ 1 1 [x] rfl (World.news_of_block hnew) (by simpa using hx) (by decide) (by unfold maxLen; omega) (by omega) hb _ rfl
  exact ⟨g, cap, w1, hr, hown, hgrow⟩
theorem wpList_pushPT {ops : Array Oper} {rest : List Oper} {o : Oper} {a : Act} {Q : Exit → Act → World → Prop} (hgd : o.guard = none) (s x : Operand)
    (ho : o.op = .call { callee := .builtin .append, args := #[s, x], argTypes := #[30, 30] }) (hty : o.type = 30)
    (w : World) (base : Nat) (v : Value) (xs : List Value) (y : Value) (H : Nat) (h : w.ownsRow base 24 1 v xs.length xs) (hnew : w.heap[H]? = some (.cells #[y] 24 (0, 0))) (hy : y.oneCell' = true) (hl : xs.length ≤ 1000000) (hb : base ≤ w.heap.size)
    (hs : a.eval s = v) (hx : a.eval x = .slice (some ⟨H, 0, none⟩) 1 1)
    (hK : ∀ g cap w1, Hid (w1.ownsRow base 24 1 (.slice (some ⟨g, 0, none⟩) (xs.length + 1) cap) (xs.length + 1) (xs ++ [y])) → Hid (w.grownBy w1 v.ownBlock) →
      wpList Tryd.prog ops Q rest (a.put o.dst (.slice (some ⟨g, 0, none⟩) (xs.length + 1) cap)) w1) :
    wpList Tryd.prog ops Q (o :: rest) a w := by
  obtain ⟨g, cap, w1, hrun, h2, h3⟩ := pushPT w base v xs y H h hnew hy hl hb
  refine wpList_plain hgd fun K hK' => ?_
  unfold Oper.wp execOp
  simp only [ho, hty, resolve, invoke, builtin, Sem.run_bind, Sem.run_pure, Result.andThen_ok, List.map_toArray, List.map_cons, List.map_nil, hs, hx, hrun]
  exact hK' _ _ (hK g cap w1 h2 h3)

theorem Tryd.infoPB : (Tryd.prog.info? 32).map (fun i => (i.zero, i.size, i.bytes)) = some (some (.slice none 0 0), 1, 24) := by kernel_rfl
theorem pushPB (w : World) (base : Nat) (v : Value) (xs : List Value) (x : Value) (H : Nat) (h : w.ownsRow base 32 1 v xs.length xs) (hnew : w.heap[H]? = some (.cells #[x] 32 (0, 0))) (hx : x.oneCell' = true) (hl : xs.length ≤ 1000000) (hb : base ≤ w.heap.size) :
    ∃ g cap w1, (Builtin.append_ #[31, 31] 31 #[v, .slice (some ⟨H, 0, none⟩) 1 1]).run Tryd.prog w = .ok (.slice (some ⟨g, 0, none⟩) (xs.length + 1) cap) w1 ∧
      w1.ownsRow base 32 1 (.slice (some ⟨g, 0, none⟩) (xs.length + 1) cap) (xs.length + 1) (xs ++ [x]) ∧ w.grownBy w1 v.ownBlock := by
  obtain ⟨i0, hi, hz0, hz1, hz2⟩ := info_parts Tryd.infoPB
  obtain ⟨g, cap, w1, hr, hown, hgrow, hat, hlt⟩ := run_append_lies (P := Tryd.prog) w 31 31 base 32 i0 (.slice none 0 0) 1 24 Tryd.underlying31 hi hz0 hz1 hz2 rfl (by decide)
    v xs.length xs h ⟨H, 0, none⟩ 1 1 [x] rfl (World.news_of_block hnew) (by simpa using hx) (by decide) (by unfold maxLen; omega) (by omega) hb _ rfl
  exact ⟨g, cap, w1, hr, hown, hgrow⟩
theorem wpList_pushPB {ops : Array Oper} {rest : List Oper} {o : Oper} {a : Act} {Q : Exit → Act → World → Prop} (hgd : o.guard = none) (s x : Operand)
    (ho : o.op = .call { callee := .builtin .append, args := #[s, x], argTypes := #[31, 31] }) (hty : o.type = 31)
    (w : World) (base : Nat) (v : Value) (xs : List Value) (y : Value) (H : Nat) (h : w.ownsRow base 32 1 v xs.length xs) (hnew : w.heap[H]? = some (.cells #[y] 32 (0, 0))) (hy : y.oneCell' = true) (hl : xs.length ≤ 1000000) (hb : base ≤ w.heap.size)
    (hs : a.eval s = v) (hx : a.eval x = .slice (some ⟨H, 0, none⟩) 1 1)
    (hK : ∀ g cap w1, Hid (w1.ownsRow base 32 1 (.slice (some ⟨g, 0, none⟩) (xs.length + 1) cap) (xs.length + 1) (xs ++ [y])) → Hid (w.grownBy w1 v.ownBlock) →
      wpList Tryd.prog ops Q rest (a.put o.dst (.slice (some ⟨g, 0, none⟩) (xs.length + 1) cap)) w1) :
    wpList Tryd.prog ops Q (o :: rest) a w := by
  obtain ⟨g, cap, w1, hrun, h2, h3⟩ := pushPB w base v xs y H h hnew hy hl hb
  refine wpList_plain hgd fun K hK' => ?_
  unfold Oper.wp execOp
  simp only [ho, hty, resolve, invoke, builtin, Sem.run_bind, Sem.run_pure, Result.andThen_ok, List.map_toArray, List.map_cons, List.map_nil, hs, hx, hrun]
  exact hK' _ _ (hK g cap w1 h2 h3)

/-- A tree stays where only rows of other types turn. -/
theorem TrO.turnT {z : Int} {w w' : World} {t : Nat} {v : Value} {ps : List Pk} {B : List Nat} (h : TrO z w t v ps) (k : Kept B w w') (hB : ∀ b ∈ B, ∃ cs ty m, w.heap[b]? = some (.cells cs ty m) ∧ ty ≠ 65 ∧ ty ≠ 75 ∧ ty ≠ 90) : TrO z w' t v ps := by
  have hne : ∀ (g : Nat) cs m (ty : TypeId), (ty = 65 ∨ ty = 75 ∨ ty = 90) → w.heap[g]? = some (.cells cs ty m) → g ∉ B := by
    intro g cs m ty ht h1 h2
    obtain ⟨cs2, ty2, m2, h3, h4, h5, h6⟩ := hB g h2
    rw [h1] at h3
    injection h3 with h3
    injection h3 with _ h7 _
    subst h7
    rcases ht with rfl | rfl | rfl
    · exact h4 rfl
    · exact h5 rfl
    · exact h6 rfl
  obtain ⟨base, ho⟩ := h.own
  have hvb : ∀ g, v.ownBlock = some g → g ∉ B := by
    intro g hg
    rcases ho.2 with ⟨h9, _⟩ | ⟨g', cap', cur, e, hb, hgg, _⟩
    · subst h9; simp [Value.ownBlock] at hg
    · subst e
      simp only [Value.ownBlock, Option.some.injEq] at hg
      subst hg
      exact hne _ _ _ _ (Or.inr (Or.inl rfl)) hgg
  refine ⟨⟨k.heap h.tree.row (hne _ _ _ _ (Or.inl rfl) h.tree.row), h.tree.wid, ?_, ⟨fun p hp => (h.tree.pk.ok p hp).kept k ?_, h.tree.pk.inc⟩⟩, h.nil, base, k.owns ho ?_⟩
  · obtain ⟨ao, cap, e, h1, h2, h3⟩ := h.tree.rd
    refine ⟨ao, cap, e, h1, h2, fun hp => ?_⟩
    obtain ⟨b, off, rfl, hc⟩ := h3 hp
    exact ⟨b, off, rfl, fun j u hj => k.cell (hc j u hj) (hvb b (by rw [e]; rfl))⟩
  · intro b hb cs m h9
    exact hne _ _ _ _ (Or.inr (Or.inr rfl)) h9 hb
  · exact fun g hg => hvb g hg
theorem own_typed {w w1 : World} {B e s n : Nat} {v : Value} {xs : List Value} (h : w.ownsRow B e s v n xs) (hg : w.grownBy w1 v.ownBlock) (h1 : e ≠ 65) (h2 : e ≠ 75) (h3 : e ≠ 90) : Kept v.ownBlock.toList w w1 ∧ ∀ b ∈ v.ownBlock.toList, ∃ cs ty m, w.heap[b]? = some (.cells cs ty m) ∧ ty ≠ 65 ∧ ty ≠ 75 ∧ ty ≠ 90 := by
  refine ⟨grown_keeps hg, fun b hb => ?_⟩
  rcases h.2 with ⟨h9, _⟩ | ⟨g, cap, cur, e9, _, hgg, _⟩
  · subst h9; simp [Value.ownBlock] at hb
  · subst e9
    simp [Value.ownBlock] at hb
    subst hb
    exact ⟨cur, e, (0, 0), hgg, h1, h2, h3⟩

/-- One tree that was made: where it lies, its peaks, and its book. -/
structure Rw where
  t : Nat
  v : Value
  ps : List Pk
  b : Value
def Rw.p (r : Rw) : Value := .pointer (some ⟨r.t, 0, none⟩)
structure GR (z : Int) (B : Nat) (w : World) (tv bv : Value) (ts bs : List Value) (rs : List Rw) : Prop where
  tow : w.ownsRow B 24 1 tv ts.length ts
  bow : w.ownsRow B 32 1 bv bs.length bs
  tr : ∀ r ∈ rs, TrO z w r.t r.v r.ps
  bk : ∀ r ∈ rs, w.ownsRow 0 41 32 r.b (leavesK r.ps).length (flatD (leavesK r.ps))
  le : ∀ r ∈ rs, (leavesK r.ps).length ≤ 400
section
variable {z : Int} {B : Nat} {w w1 : World} {tv bv : Value} {ts bs : List Value} {rs : List Rw}
theorem GR.old (h : GR z B w tv bv ts bs rs) (k : Kept [] w w1) : GR z B w1 tv bv ts bs rs :=
  ⟨k.owns h.tow (by simp), k.owns h.bow (by simp), fun r hr => (h.tr r hr).old k, fun r hr => k.owns (h.bk r hr) (by simp), h.le⟩
theorem GR.rd (h : GR z B w tv bv ts bs rs) {r : Rw} (hr : r ∈ rs) : RdD w r.b (leavesK r.ps) := rdd_owns (h.bk r hr) (fun d hd => ((h.tr r hr).tree.pk.leaves d hd).1)
theorem GR.add (h : GR z B w tv bv ts bs rs) (r : Rw) (h1 : TrO z w r.t r.v r.ps) (h2 : w.ownsRow 0 41 32 r.b (leavesK r.ps).length (flatD (leavesK r.ps))) (h3 : (leavesK r.ps).length ≤ 400) : GR z B w tv bv ts bs (rs ++ [r]) := by
  refine ⟨h.tow, h.bow, fun s hs => ?_, fun s hs => ?_, fun s hs => ?_⟩ <;> (rcases List.mem_append.1 hs with hs | hs)
  · exact h.tr s hs
  · rw [List.mem_singleton] at hs; subst hs; exact h1
  · exact h.bk s hs
  · rw [List.mem_singleton] at hs; subst hs; exact h2
  · exact h.le s hs
  · rw [List.mem_singleton] at hs; subst hs; exact h3
theorem GR.pushT {tv' : Value} {ts' : List Value} (h : GR z B w tv bv ts bs rs) (ho : w1.ownsRow B 24 1 tv' ts'.length ts') (hg : w.grownBy w1 tv.ownBlock) : GR z B w1 tv' bv ts' bs rs := by
  obtain ⟨k, hk⟩ := own_typed h.tow hg (by decide) (by decide) (by decide)
  exact ⟨ho, keeps_owns hg h.bow (own_ne h.bow h.tow (by decide)), fun r hr => (h.tr r hr).turnT k hk, fun r hr => keeps_owns hg (h.bk r hr) (own_ne (h.bk r hr) h.tow (by decide)), h.le⟩
theorem GR.pushB {bv' : Value} {bs' : List Value} (h : GR z B w tv bv ts bs rs) (ho : w1.ownsRow B 32 1 bv' bs'.length bs') (hg : w.grownBy w1 bv.ownBlock) : GR z B w1 tv bv' ts bs' rs := by
  obtain ⟨k, hk⟩ := own_typed h.bow hg (by decide) (by decide) (by decide)
  exact ⟨keeps_owns hg h.tow (own_ne h.tow h.bow (by decide)), ho, fun r hr => (h.tr r hr).turnT k hk, fun r hr => keeps_owns hg (h.bk r hr) (own_ne (h.bk r hr) h.bow (by decide)), h.le⟩
end
theorem row1_cell {w : World} {B e g n c : Nat} {xs : List Value} (h : w.ownsRow B e 1 (.slice (some ⟨g, 0, none⟩) n c) xs.length xs) {k : Nat} {x : Value} (hx : xs[k]? = some x) : w.cell? ⟨g, k, none⟩ = some x := by
  have h9 := h.cells (g := g) (by rcases h.2 with ⟨h8, _⟩ | ⟨g', cap', cur, e9, _⟩; (simp at h8); (simp only [Value.slice.injEq] at e9; obtain ⟨_, rfl, _⟩ := e9; rfl)) k x hx
  rw [Addr.add_mid, Nat.zero_add] at h9
  exact h9
end Go.Proofs.YtecadmldnjlibaaDoor
/-
  A drawn region whose first n operations read, or call what keeps all that was there, and whose others stand in one row behind them: one walk in the text's order, over the worlds that keep W.
-/
namespace Go.Proofs.YtecadmldnjlibaaDoor
open Go Go.RowKit Go.BigFrame
set_option linter.unusedSimpArgs false

theorem wp_keep_tail {P : Program} {id : Nat} {Q : Exit → Act → World → Prop} {a : Act} {w : World} {l : List Oper} (n : Nat) (hm : P.follows .mixedOrders = true) (hB : Region.lexTailB .any l.toArray n = true)
    (h : wpQuiet P l.toArray (fun w' => Kept [] w w') (fun a' => ∀ w', Kept [] w w' → wpList P l.toArray Q (l.drop n) a' w') (l.take n) a) : (Code.region id l.toArray true).wp P Q a w := by
  simp only [Region.lexTailB, Bool.and_eq_true, decide_eq_true_eq] at hB
  obtain ⟨⟨⟨⟨hsel, hn⟩, hs⟩, hc⟩, hlex⟩ := hB
  have hn' : n < l.length := by simpa using hn
  have htl : (l.take n).length = n := by simp; omega
  have hdl : (l.drop n).length = l.toArray.size - n := by simp
  have inv : HeadInv .any l.toArray n (Array.replicate l.toArray.size false) :=
    ⟨by simp, fun j oj _ hl => absurd hl (by rw [getD_replicate_false]; decide), fun t _ ht => getD_in (by simpa using ht) (getD_replicate_false _ _)⟩
  have H := AnyHead.lex (md := .any) (g := l.toArray.size - n) hsel hs hc hn (l.take n) 0 _ a (fun j hj => by
    rw [htl] at hj
    simp [hj]) (by omega) inv (by rw [htl]; exact hlex) h
  refine wp_region_any hm ?_
  have K := AnyHead.any (Q := Q) (g := l.toArray.size - n) (fun d a' w' hw' hL => by
    have := wpAny_of_seq (md := .any) (Q' := Q) (l.drop n) n d a' w' (fun j => by simp [List.getElem?_drop]) (by rw [hdl]; exact hL.1) (hL.2 w' hw')
    rwa [hdl] at this) _ _ _ w.drew ((Kept.refl [] w).drew) H
  rw [htl, show n + (l.toArray.size - n) = l.toArray.size by omega] at K
  exact K
end Go.Proofs.YtecadmldnjlibaaDoor
/-
  Laws for drawn regions, by genreg.py. No program.
-/
namespace Go.Proofs.YtecadmldnjlibaaDoor
open Go Go.RowKit Go.BigFrame
set_option linter.unusedVariables false
set_option linter.unusedSimpArgs false
section
variable {P : Program} {Q : Exit → Act → World → Prop}
theorem wp_gr13 {id : Nat} {o0 o1 o2 o3 o4 o5 o6 o7 o8 o9 o10 o11 o12 : Oper} {a : Act} {w : World} (hm : P.follows .mixedOrders = true) (hs : Region.noSelect #[o0, o1, o2, o3, o4, o5, o6, o7, o8, o9, o10, o11, o12] = true)
    (f0 : Region.free .any #[o0, o1, o2, o3, o4, o5, o6, o7, o8, o9, o10, o11, o12] #[false, false, false, false, false, false, false, false, false, false, false, false, false] 0 = true) (r0 : (Region.ready .any #[o0, o1, o2, o3, o4, o5, o6, o7, o8, o9, o10, o11, o12] #[false, false, false, false, false, false, false, false, false, false, false, false, false]).contains 0 = true)
    (f1 : Region.free .any #[o0, o1, o2, o3, o4, o5, o6, o7, o8, o9, o10, o11, o12] #[true, false, false, false, false, false, false, false, false, false, false, false, false] 1 = true) (r1 : (Region.ready .any #[o0, o1, o2, o3, o4, o5, o6, o7, o8, o9, o10, o11, o12] #[true, false, false, false, false, false, false, false, false, false, false, false, false]).contains 1 = true)
    (f2 : Region.free .any #[o0, o1, o2, o3, o4, o5, o6, o7, o8, o9, o10, o11, o12] #[true, true, false, false, false, false, false, false, false, false, false, false, false] 2 = true) (r2 : (Region.ready .any #[o0, o1, o2, o3, o4, o5, o6, o7, o8, o9, o10, o11, o12] #[true, true, false, false, false, false, false, false, false, false, false, false, false]).contains 2 = true)
    (f3 : Region.free .any #[o0, o1, o2, o3, o4, o5, o6, o7, o8, o9, o10, o11, o12] #[true, true, true, false, false, false, false, false, false, false, false, false, false] 3 = true) (r3 : (Region.ready .any #[o0, o1, o2, o3, o4, o5, o6, o7, o8, o9, o10, o11, o12] #[true, true, true, false, false, false, false, false, false, false, false, false, false]).contains 3 = true)
    (f4 : Region.free .any #[o0, o1, o2, o3, o4, o5, o6, o7, o8, o9, o10, o11, o12] #[true, true, true, true, false, false, false, false, false, false, false, false, false] 4 = true) (r4 : (Region.ready .any #[o0, o1, o2, o3, o4, o5, o6, o7, o8, o9, o10, o11, o12] #[true, true, true, true, false, false, false, false, false, false, false, false, false]).contains 4 = true)
    (f5 : Region.free .any #[o0, o1, o2, o3, o4, o5, o6, o7, o8, o9, o10, o11, o12] #[true, true, true, true, true, false, false, false, false, false, false, false, false] 5 = true) (r5 : (Region.ready .any #[o0, o1, o2, o3, o4, o5, o6, o7, o8, o9, o10, o11, o12] #[true, true, true, true, true, false, false, false, false, false, false, false, false]).contains 5 = true)
    (f6 : Region.free .any #[o0, o1, o2, o3, o4, o5, o6, o7, o8, o9, o10, o11, o12] #[true, true, true, true, true, true, false, false, false, false, false, false, false] 6 = true) (r6 : (Region.ready .any #[o0, o1, o2, o3, o4, o5, o6, o7, o8, o9, o10, o11, o12] #[true, true, true, true, true, true, false, false, false, false, false, false, false]).contains 6 = true)
    (q_ : Region.ready .any #[o0, o1, o2, o3, o4, o5, o6, o7, o8, o9, o10, o11, o12] #[true, true, true, true, true, true, true, false, false, false, false, false, false] = [7])
    (f_7_8 : Region.free .any #[o0, o1, o2, o3, o4, o5, o6, o7, o8, o9, o10, o11, o12] #[true, true, true, true, true, true, true, true, false, false, false, false, false] 8 = true) (r_7_8 : (Region.ready .any #[o0, o1, o2, o3, o4, o5, o6, o7, o8, o9, o10, o11, o12] #[true, true, true, true, true, true, true, true, false, false, false, false, false]).contains 8 = true)
    (f_7_9 : Region.free .any #[o0, o1, o2, o3, o4, o5, o6, o7, o8, o9, o10, o11, o12] #[true, true, true, true, true, true, true, true, true, false, false, false, false] 9 = true) (r_7_9 : (Region.ready .any #[o0, o1, o2, o3, o4, o5, o6, o7, o8, o9, o10, o11, o12] #[true, true, true, true, true, true, true, true, true, false, false, false, false]).contains 9 = true)
    (f_7_10 : Region.free .any #[o0, o1, o2, o3, o4, o5, o6, o7, o8, o9, o10, o11, o12] #[true, true, true, true, true, true, true, true, true, true, false, false, false] 10 = true) (r_7_10 : (Region.ready .any #[o0, o1, o2, o3, o4, o5, o6, o7, o8, o9, o10, o11, o12] #[true, true, true, true, true, true, true, true, true, true, false, false, false]).contains 10 = true)
    (f_7_11 : Region.free .any #[o0, o1, o2, o3, o4, o5, o6, o7, o8, o9, o10, o11, o12] #[true, true, true, true, true, true, true, true, true, true, true, false, false] 11 = true) (r_7_11 : (Region.ready .any #[o0, o1, o2, o3, o4, o5, o6, o7, o8, o9, o10, o11, o12] #[true, true, true, true, true, true, true, true, true, true, true, false, false]).contains 11 = true)
    (f_7_12 : Region.free .any #[o0, o1, o2, o3, o4, o5, o6, o7, o8, o9, o10, o11, o12] #[true, true, true, true, true, true, true, true, true, true, true, true, false] 12 = true) (r_7_12 : (Region.ready .any #[o0, o1, o2, o3, o4, o5, o6, o7, o8, o9, o10, o11, o12] #[true, true, true, true, true, true, true, true, true, true, true, true, false]).contains 12 = true)
    (q7_ : Region.ready .any #[o0, o1, o2, o3, o4, o5, o6, o7, o8, o9, o10, o11, o12] #[true, true, true, true, true, true, true, true, true, true, true, true, true] = [])
    (g7 : o7.guard = none)
    (v0 v1 v2 v3 v4 v5 v6 : Value) (A0 A1 A2 A3 A4 A5 A6 : Act)
    (S : World → Prop)
    (I_ : World → Prop)
    (I7_ : Value → World → Prop)
    (v8 : Value → Value)
    (v9 : Value → Value)
    (v10 : Value → Value)
    (v11 : Value → Value)
    (v12 : Value → Value)
    (p0 : a.put o0.dst v0 = A0) (hy0 : YieldsIf P #[o0, o1, o2, o3, o4, o5, o6, o7, o8, o9, o10, o11, o12] S o0 v0 a)
    (p1 : A0.put o1.dst v1 = A1) (hy1 : YieldsIf P #[o0, o1, o2, o3, o4, o5, o6, o7, o8, o9, o10, o11, o12] S o1 v1 A0)
    (p2 : A1.put o2.dst v2 = A2) (hy2 : YieldsIf P #[o0, o1, o2, o3, o4, o5, o6, o7, o8, o9, o10, o11, o12] S o2 v2 A1)
    (p3 : A2.put o3.dst v3 = A3) (hy3 : YieldsIf P #[o0, o1, o2, o3, o4, o5, o6, o7, o8, o9, o10, o11, o12] S o3 v3 A2)
    (p4 : A3.put o4.dst v4 = A4) (hy4 : YieldsIf P #[o0, o1, o2, o3, o4, o5, o6, o7, o8, o9, o10, o11, o12] S o4 v4 A3)
    (p5 : A4.put o5.dst v5 = A5) (hy5 : YieldsIf P #[o0, o1, o2, o3, o4, o5, o6, o7, o8, o9, o10, o11, o12] S o5 v5 A4)
    (p6 : A5.put o6.dst v6 = A6) (hy6 : YieldsIf P #[o0, o1, o2, o3, o4, o5, o6, o7, o8, o9, o10, o11, o12] S o6 v6 A5)
    (i0 : I_ w.drew)
    (hIS : (∀ w', I_  w' → S w') ∧ (∀ (u7 : Value) w', I7_ u7 w' → S w'))
    (s_7 : ∀ w', I_  w' → ∀ K : Act → World → Prop, (∀ (u7 : Value) w2, I7_ u7 w2 → K (A6.put o7.dst u7) w2) → o7.wp P A6 w' K (NoPanic Q))
    (y_7_8 : ∀ (u7 : Value) w', I7_ u7 w' → YieldsIf P #[o0, o1, o2, o3, o4, o5, o6, o7, o8, o9, o10, o11, o12] S o8 (v8 u7) (A6.put o7.dst u7))
    (y_7_9 : ∀ (u7 : Value) w', I7_ u7 w' → YieldsIf P #[o0, o1, o2, o3, o4, o5, o6, o7, o8, o9, o10, o11, o12] S o9 (v9 u7) ((A6.put o7.dst u7).put o8.dst (v8 u7)))
    (y_7_10 : ∀ (u7 : Value) w', I7_ u7 w' → YieldsIf P #[o0, o1, o2, o3, o4, o5, o6, o7, o8, o9, o10, o11, o12] S o10 (v10 u7) (((A6.put o7.dst u7).put o8.dst (v8 u7)).put o9.dst (v9 u7)))
    (y_7_11 : ∀ (u7 : Value) w', I7_ u7 w' → YieldsIf P #[o0, o1, o2, o3, o4, o5, o6, o7, o8, o9, o10, o11, o12] S o11 (v11 u7) ((((A6.put o7.dst u7).put o8.dst (v8 u7)).put o9.dst (v9 u7)).put o10.dst (v10 u7)))
    (y_7_12 : ∀ (u7 : Value) w', I7_ u7 w' → YieldsIf P #[o0, o1, o2, o3, o4, o5, o6, o7, o8, o9, o10, o11, o12] S o12 (v12 u7) (((((A6.put o7.dst u7).put o8.dst (v8 u7)).put o9.dst (v9 u7)).put o10.dst (v10 u7)).put o11.dst (v11 u7)))
    (h : ∀ (u7 : Value) w', I7_ u7 w' → Q .normal ((((((A6.put o7.dst u7).put o8.dst (v8 u7)).put o9.dst (v9 u7)).put o10.dst (v10 u7)).put o11.dst (v11 u7)).put o12.dst (v12 u7)) w') :
    (Code.region id #[o0, o1, o2, o3, o4, o5, o6, o7, o8, o9, o10, o11, o12] true).wp P Q a w := by
  subst p0 p1 p2 p3 p4 p5 p6
  obtain ⟨z_, z7_⟩ := hIS
  refine wp_region_noPanic ?_
  refine wp_region_held_drew (S := S) hm (z_ _ i0) (fun hH => ?_)
  show wpAnyH P .any #[o0, o1, o2, o3, o4, o5, o6, o7, o8, o9, o10, o11, o12] (NoPanic Q) S 13 #[false, false, false, false, false, false, false, false, false, false, false, false, false] a w.drew
  refine wpAnyH_take (i := 0) (oi := o0) rfl hs f0 r0 (fun _ _ _ h => h) hy0 hH ?_
  refine wpAnyH_take (i := 1) (oi := o1) rfl hs f1 r1 (fun _ _ _ h => h) hy1 hH ?_
  refine wpAnyH_take (i := 2) (oi := o2) rfl hs f2 r2 (fun _ _ _ h => h) hy2 hH ?_
  refine wpAnyH_take (i := 3) (oi := o3) rfl hs f3 r3 (fun _ _ _ h => h) hy3 hH ?_
  refine wpAnyH_take (i := 4) (oi := o4) rfl hs f4 r4 (fun _ _ _ h => h) hy4 hH ?_
  refine wpAnyH_take (i := 5) (oi := o5) rfl hs f5 r5 (fun _ _ _ h => h) hy5 hH ?_
  refine wpAnyH_take (i := 6) (oi := o6) rfl hs f6 r6 (fun _ _ _ h => h) hy6 hH ?_
  generalize (((((((a.put o0.dst v0).put o1.dst v1).put o2.dst v2).put o3.dst v3).put o4.dst v4).put o5.dst v5).put o6.dst v6) = B at *
  have wa7 : ∀ y, Region.wanted o7 y = true := fun y => by unfold Region.wanted; rw [g7]
  have t7_ : ∀ (u7 : Value) w', I7_ u7 w' → wpAnyH P .any #[o0, o1, o2, o3, o4, o5, o6, o7, o8, o9, o10, o11, o12] (NoPanic Q) S 0 #[true, true, true, true, true, true, true, true, true, true, true, true, true] ((((((B.put o7.dst u7).put o8.dst (v8 u7)).put o9.dst (v9 u7)).put o10.dst (v10 u7)).put o11.dst (v11 u7)).put o12.dst (v12 u7)) w' := by
    intro u7 w0 i0
    exact ⟨q7_, NoPanic.normal (h u7 w0 i0)⟩
  have t_ : ∀ w', I_  w' → wpAnyH P .any #[o0, o1, o2, o3, o4, o5, o6, o7, o8, o9, o10, o11, o12] (NoPanic Q) S 6 #[true, true, true, true, true, true, true, false, false, false, false, false, false] B w' := by
    intro w0 i0
    refine wpAnyH_ready (rs := [7]) q_ (by simp) (AllReadyH.cons (o := o7) rfl (fun K hK => ?_) AllReadyH.nil)
    · rw [if_pos (wa7 _)]
      refine s_7  w0 i0 K (fun u7 w1 i1 => hK.out _ _ (z7_ u7 w1 i1) (fun _ => ?_))
      clear hK
      refine wpAnyH_take (i := 8) (oi := o8) rfl hs f_7_8 r_7_8 (fun _ _ _ h => h) (y_7_8 u7 w1 i1) (z7_ u7 w1 i1) ?_
      refine wpAnyH_take (i := 9) (oi := o9) rfl hs f_7_9 r_7_9 (fun _ _ _ h => h) (y_7_9 u7 w1 i1) (z7_ u7 w1 i1) ?_
      refine wpAnyH_take (i := 10) (oi := o10) rfl hs f_7_10 r_7_10 (fun _ _ _ h => h) (y_7_10 u7 w1 i1) (z7_ u7 w1 i1) ?_
      refine wpAnyH_take (i := 11) (oi := o11) rfl hs f_7_11 r_7_11 (fun _ _ _ h => h) (y_7_11 u7 w1 i1) (z7_ u7 w1 i1) ?_
      refine wpAnyH_take (i := 12) (oi := o12) rfl hs f_7_12 r_7_12 (fun _ _ _ h => h) (y_7_12 u7 w1 i1) (z7_ u7 w1 i1) ?_
      exact t7_ u7 w1 i1
  exact t_ w.drew i0

theorem wp_gr14 {id : Nat} {o0 o1 o2 o3 o4 o5 o6 o7 o8 o9 o10 o11 o12 o13 : Oper} {a : Act} {w : World} (hm : P.follows .mixedOrders = true) (hs : Region.noSelect #[o0, o1, o2, o3, o4, o5, o6, o7, o8, o9, o10, o11, o12, o13] = true)
    (f0 : Region.free .any #[o0, o1, o2, o3, o4, o5, o6, o7, o8, o9, o10, o11, o12, o13] #[false, false, false, false, false, false, false, false, false, false, false, false, false, false] 0 = true) (r0 : (Region.ready .any #[o0, o1, o2, o3, o4, o5, o6, o7, o8, o9, o10, o11, o12, o13] #[false, false, false, false, false, false, false, false, false, false, false, false, false, false]).contains 0 = true)
    (f1 : Region.free .any #[o0, o1, o2, o3, o4, o5, o6, o7, o8, o9, o10, o11, o12, o13] #[true, false, false, false, false, false, false, false, false, false, false, false, false, false] 1 = true) (r1 : (Region.ready .any #[o0, o1, o2, o3, o4, o5, o6, o7, o8, o9, o10, o11, o12, o13] #[true, false, false, false, false, false, false, false, false, false, false, false, false, false]).contains 1 = true)
    (f2 : Region.free .any #[o0, o1, o2, o3, o4, o5, o6, o7, o8, o9, o10, o11, o12, o13] #[true, true, false, false, false, false, false, false, false, false, false, false, false, false] 2 = true) (r2 : (Region.ready .any #[o0, o1, o2, o3, o4, o5, o6, o7, o8, o9, o10, o11, o12, o13] #[true, true, false, false, false, false, false, false, false, false, false, false, false, false]).contains 2 = true)
    (f3 : Region.free .any #[o0, o1, o2, o3, o4, o5, o6, o7, o8, o9, o10, o11, o12, o13] #[true, true, true, false, false, false, false, false, false, false, false, false, false, false] 3 = true) (r3 : (Region.ready .any #[o0, o1, o2, o3, o4, o5, o6, o7, o8, o9, o10, o11, o12, o13] #[true, true, true, false, false, false, false, false, false, false, false, false, false, false]).contains 3 = true)
    (f4 : Region.free .any #[o0, o1, o2, o3, o4, o5, o6, o7, o8, o9, o10, o11, o12, o13] #[true, true, true, true, false, false, false, false, false, false, false, false, false, false] 4 = true) (r4 : (Region.ready .any #[o0, o1, o2, o3, o4, o5, o6, o7, o8, o9, o10, o11, o12, o13] #[true, true, true, true, false, false, false, false, false, false, false, false, false, false]).contains 4 = true)
    (f5 : Region.free .any #[o0, o1, o2, o3, o4, o5, o6, o7, o8, o9, o10, o11, o12, o13] #[true, true, true, true, true, false, false, false, false, false, false, false, false, false] 5 = true) (r5 : (Region.ready .any #[o0, o1, o2, o3, o4, o5, o6, o7, o8, o9, o10, o11, o12, o13] #[true, true, true, true, true, false, false, false, false, false, false, false, false, false]).contains 5 = true)
    (f6 : Region.free .any #[o0, o1, o2, o3, o4, o5, o6, o7, o8, o9, o10, o11, o12, o13] #[true, true, true, true, true, true, false, false, false, false, false, false, false, false] 6 = true) (r6 : (Region.ready .any #[o0, o1, o2, o3, o4, o5, o6, o7, o8, o9, o10, o11, o12, o13] #[true, true, true, true, true, true, false, false, false, false, false, false, false, false]).contains 6 = true)
    (f7 : Region.free .any #[o0, o1, o2, o3, o4, o5, o6, o7, o8, o9, o10, o11, o12, o13] #[true, true, true, true, true, true, true, false, false, false, false, false, false, false] 7 = true) (r7 : (Region.ready .any #[o0, o1, o2, o3, o4, o5, o6, o7, o8, o9, o10, o11, o12, o13] #[true, true, true, true, true, true, true, false, false, false, false, false, false, false]).contains 7 = true)
    (q_ : Region.ready .any #[o0, o1, o2, o3, o4, o5, o6, o7, o8, o9, o10, o11, o12, o13] #[true, true, true, true, true, true, true, true, false, false, false, false, false, false] = [8])
    (f_8_9 : Region.free .any #[o0, o1, o2, o3, o4, o5, o6, o7, o8, o9, o10, o11, o12, o13] #[true, true, true, true, true, true, true, true, true, false, false, false, false, false] 9 = true) (r_8_9 : (Region.ready .any #[o0, o1, o2, o3, o4, o5, o6, o7, o8, o9, o10, o11, o12, o13] #[true, true, true, true, true, true, true, true, true, false, false, false, false, false]).contains 9 = true)
    (f_8_10 : Region.free .any #[o0, o1, o2, o3, o4, o5, o6, o7, o8, o9, o10, o11, o12, o13] #[true, true, true, true, true, true, true, true, true, true, false, false, false, false] 10 = true) (r_8_10 : (Region.ready .any #[o0, o1, o2, o3, o4, o5, o6, o7, o8, o9, o10, o11, o12, o13] #[true, true, true, true, true, true, true, true, true, true, false, false, false, false]).contains 10 = true)
    (f_8_11 : Region.free .any #[o0, o1, o2, o3, o4, o5, o6, o7, o8, o9, o10, o11, o12, o13] #[true, true, true, true, true, true, true, true, true, true, true, false, false, false] 11 = true) (r_8_11 : (Region.ready .any #[o0, o1, o2, o3, o4, o5, o6, o7, o8, o9, o10, o11, o12, o13] #[true, true, true, true, true, true, true, true, true, true, true, false, false, false]).contains 11 = true)
    (f_8_12 : Region.free .any #[o0, o1, o2, o3, o4, o5, o6, o7, o8, o9, o10, o11, o12, o13] #[true, true, true, true, true, true, true, true, true, true, true, true, false, false] 12 = true) (r_8_12 : (Region.ready .any #[o0, o1, o2, o3, o4, o5, o6, o7, o8, o9, o10, o11, o12, o13] #[true, true, true, true, true, true, true, true, true, true, true, true, false, false]).contains 12 = true)
    (f_8_13 : Region.free .any #[o0, o1, o2, o3, o4, o5, o6, o7, o8, o9, o10, o11, o12, o13] #[true, true, true, true, true, true, true, true, true, true, true, true, true, false] 13 = true) (r_8_13 : (Region.ready .any #[o0, o1, o2, o3, o4, o5, o6, o7, o8, o9, o10, o11, o12, o13] #[true, true, true, true, true, true, true, true, true, true, true, true, true, false]).contains 13 = true)
    (q8_ : Region.ready .any #[o0, o1, o2, o3, o4, o5, o6, o7, o8, o9, o10, o11, o12, o13] #[true, true, true, true, true, true, true, true, true, true, true, true, true, true] = [])
    (g8 : o8.guard = none)
    (v0 v1 v2 v3 v4 v5 v6 v7 : Value) (A0 A1 A2 A3 A4 A5 A6 A7 : Act)
    (S : World → Prop)
    (I_ : World → Prop)
    (I8_ : Value → World → Prop)
    (v9 : Value → Value)
    (v10 : Value → Value)
    (v11 : Value → Value)
    (v12 : Value → Value)
    (v13 : Value → Value)
    (p0 : a.put o0.dst v0 = A0) (hy0 : YieldsIf P #[o0, o1, o2, o3, o4, o5, o6, o7, o8, o9, o10, o11, o12, o13] S o0 v0 a)
    (p1 : A0.put o1.dst v1 = A1) (hy1 : YieldsIf P #[o0, o1, o2, o3, o4, o5, o6, o7, o8, o9, o10, o11, o12, o13] S o1 v1 A0)
    (p2 : A1.put o2.dst v2 = A2) (hy2 : YieldsIf P #[o0, o1, o2, o3, o4, o5, o6, o7, o8, o9, o10, o11, o12, o13] S o2 v2 A1)
    (p3 : A2.put o3.dst v3 = A3) (hy3 : YieldsIf P #[o0, o1, o2, o3, o4, o5, o6, o7, o8, o9, o10, o11, o12, o13] S o3 v3 A2)
    (p4 : A3.put o4.dst v4 = A4) (hy4 : YieldsIf P #[o0, o1, o2, o3, o4, o5, o6, o7, o8, o9, o10, o11, o12, o13] S o4 v4 A3)
    (p5 : A4.put o5.dst v5 = A5) (hy5 : YieldsIf P #[o0, o1, o2, o3, o4, o5, o6, o7, o8, o9, o10, o11, o12, o13] S o5 v5 A4)
    (p6 : A5.put o6.dst v6 = A6) (hy6 : YieldsIf P #[o0, o1, o2, o3, o4, o5, o6, o7, o8, o9, o10, o11, o12, o13] S o6 v6 A5)
    (p7 : A6.put o7.dst v7 = A7) (hy7 : YieldsIf P #[o0, o1, o2, o3, o4, o5, o6, o7, o8, o9, o10, o11, o12, o13] S o7 v7 A6)
    (i0 : I_ w.drew)
    (hIS : (∀ w', I_  w' → S w') ∧ (∀ (u8 : Value) w', I8_ u8 w' → S w'))
    (s_8 : ∀ w', I_  w' → ∀ K : Act → World → Prop, (∀ (u8 : Value) w2, I8_ u8 w2 → K (A7.put o8.dst u8) w2) → o8.wp P A7 w' K (NoPanic Q))
    (y_8_9 : ∀ (u8 : Value) w', I8_ u8 w' → YieldsIf P #[o0, o1, o2, o3, o4, o5, o6, o7, o8, o9, o10, o11, o12, o13] S o9 (v9 u8) (A7.put o8.dst u8))
    (y_8_10 : ∀ (u8 : Value) w', I8_ u8 w' → YieldsIf P #[o0, o1, o2, o3, o4, o5, o6, o7, o8, o9, o10, o11, o12, o13] S o10 (v10 u8) ((A7.put o8.dst u8).put o9.dst (v9 u8)))
    (y_8_11 : ∀ (u8 : Value) w', I8_ u8 w' → YieldsIf P #[o0, o1, o2, o3, o4, o5, o6, o7, o8, o9, o10, o11, o12, o13] S o11 (v11 u8) (((A7.put o8.dst u8).put o9.dst (v9 u8)).put o10.dst (v10 u8)))
    (y_8_12 : ∀ (u8 : Value) w', I8_ u8 w' → YieldsIf P #[o0, o1, o2, o3, o4, o5, o6, o7, o8, o9, o10, o11, o12, o13] S o12 (v12 u8) ((((A7.put o8.dst u8).put o9.dst (v9 u8)).put o10.dst (v10 u8)).put o11.dst (v11 u8)))
    (y_8_13 : ∀ (u8 : Value) w', I8_ u8 w' → YieldsIf P #[o0, o1, o2, o3, o4, o5, o6, o7, o8, o9, o10, o11, o12, o13] S o13 (v13 u8) (((((A7.put o8.dst u8).put o9.dst (v9 u8)).put o10.dst (v10 u8)).put o11.dst (v11 u8)).put o12.dst (v12 u8)))
    (h : ∀ (u8 : Value) w', I8_ u8 w' → Q .normal ((((((A7.put o8.dst u8).put o9.dst (v9 u8)).put o10.dst (v10 u8)).put o11.dst (v11 u8)).put o12.dst (v12 u8)).put o13.dst (v13 u8)) w') :
    (Code.region id #[o0, o1, o2, o3, o4, o5, o6, o7, o8, o9, o10, o11, o12, o13] true).wp P Q a w := by
  subst p0 p1 p2 p3 p4 p5 p6 p7
  obtain ⟨z_, z8_⟩ := hIS
  refine wp_region_noPanic ?_
  refine wp_region_held_drew (S := S) hm (z_ _ i0) (fun hH => ?_)
  show wpAnyH P .any #[o0, o1, o2, o3, o4, o5, o6, o7, o8, o9, o10, o11, o12, o13] (NoPanic Q) S 14 #[false, false, false, false, false, false, false, false, false, false, false, false, false, false] a w.drew
  refine wpAnyH_take (i := 0) (oi := o0) rfl hs f0 r0 (fun _ _ _ h => h) hy0 hH ?_
  refine wpAnyH_take (i := 1) (oi := o1) rfl hs f1 r1 (fun _ _ _ h => h) hy1 hH ?_
  refine wpAnyH_take (i := 2) (oi := o2) rfl hs f2 r2 (fun _ _ _ h => h) hy2 hH ?_
  refine wpAnyH_take (i := 3) (oi := o3) rfl hs f3 r3 (fun _ _ _ h => h) hy3 hH ?_
  refine wpAnyH_take (i := 4) (oi := o4) rfl hs f4 r4 (fun _ _ _ h => h) hy4 hH ?_
  refine wpAnyH_take (i := 5) (oi := o5) rfl hs f5 r5 (fun _ _ _ h => h) hy5 hH ?_
  refine wpAnyH_take (i := 6) (oi := o6) rfl hs f6 r6 (fun _ _ _ h => h) hy6 hH ?_
  refine wpAnyH_take (i := 7) (oi := o7) rfl hs f7 r7 (fun _ _ _ h => h) hy7 hH ?_
  generalize ((((((((a.put o0.dst v0).put o1.dst v1).put o2.dst v2).put o3.dst v3).put o4.dst v4).put o5.dst v5).put o6.dst v6).put o7.dst v7) = B at *
  have wa8 : ∀ y, Region.wanted o8 y = true := fun y => by unfold Region.wanted; rw [g8]
  have t8_ : ∀ (u8 : Value) w', I8_ u8 w' → wpAnyH P .any #[o0, o1, o2, o3, o4, o5, o6, o7, o8, o9, o10, o11, o12, o13] (NoPanic Q) S 0 #[true, true, true, true, true, true, true, true, true, true, true, true, true, true] ((((((B.put o8.dst u8).put o9.dst (v9 u8)).put o10.dst (v10 u8)).put o11.dst (v11 u8)).put o12.dst (v12 u8)).put o13.dst (v13 u8)) w' := by
    intro u8 w0 i0
    exact ⟨q8_, NoPanic.normal (h u8 w0 i0)⟩
  have t_ : ∀ w', I_  w' → wpAnyH P .any #[o0, o1, o2, o3, o4, o5, o6, o7, o8, o9, o10, o11, o12, o13] (NoPanic Q) S 6 #[true, true, true, true, true, true, true, true, false, false, false, false, false, false] B w' := by
    intro w0 i0
    refine wpAnyH_ready (rs := [8]) q_ (by simp) (AllReadyH.cons (o := o8) rfl (fun K hK => ?_) AllReadyH.nil)
    · rw [if_pos (wa8 _)]
      refine s_8  w0 i0 K (fun u8 w1 i1 => hK.out _ _ (z8_ u8 w1 i1) (fun _ => ?_))
      clear hK
      refine wpAnyH_take (i := 9) (oi := o9) rfl hs f_8_9 r_8_9 (fun _ _ _ h => h) (y_8_9 u8 w1 i1) (z8_ u8 w1 i1) ?_
      refine wpAnyH_take (i := 10) (oi := o10) rfl hs f_8_10 r_8_10 (fun _ _ _ h => h) (y_8_10 u8 w1 i1) (z8_ u8 w1 i1) ?_
      refine wpAnyH_take (i := 11) (oi := o11) rfl hs f_8_11 r_8_11 (fun _ _ _ h => h) (y_8_11 u8 w1 i1) (z8_ u8 w1 i1) ?_
      refine wpAnyH_take (i := 12) (oi := o12) rfl hs f_8_12 r_8_12 (fun _ _ _ h => h) (y_8_12 u8 w1 i1) (z8_ u8 w1 i1) ?_
      refine wpAnyH_take (i := 13) (oi := o13) rfl hs f_8_13 r_8_13 (fun _ _ _ h => h) (y_8_13 u8 w1 i1) (z8_ u8 w1 i1) ?_
      exact t8_ u8 w1 i1
  exact t_ w.drew i0

end
end Go.Proofs.YtecadmldnjlibaaDoor
