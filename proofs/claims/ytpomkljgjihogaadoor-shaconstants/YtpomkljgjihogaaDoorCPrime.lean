import Derived.Test.YtpomkljgjihogaaDoorRowz
import Derived.Test.YtpomkljgjihogaaDoorCRoot
namespace Go.Proofs.YtpomkljgjihogaaDoor
open Go.RowKit Go.BigFrame
set_option linter.unusedVariables false
set_option linter.unusedSimpArgs false

theorem primeF_le {n d : Nat} (f : Nat) (h : d * d ≤ n) : primeF n (f + 1) d = if n % d = 0 then false else primeF n f (d + 1) := by
  conv => lhs; unfold primeF
  rw [if_pos h]
theorem primeF_gt {n d : Nat} (f : Nat) (h : ¬ d * d ≤ n) : primeF n f d = decide (1 < n) := by
  cases f with
  | zero => rfl
  | succ f => unfold primeF; rw [if_neg h]

set_option maxRecDepth 100000 in
set_option maxHeartbeats 1000000 in
theorem prime_any (n : Nat) (w : World) (hn : n < 1000) :
    Calls Tryd.prog 6 #[.int .u64 n] w fun e w' => e = .returned (.bool (primeL n)) ∧ Kept [] w w' := by
  go_enter Tryd.func6, Tryd.ntmps6
  go_wp2_with fail
  go_loopw [3] (fun t3 wr => ∃ (d f : Nat), t3 = .int .u64 d ∧ 2 ≤ d ∧ d ≤ 40 ∧ d + f = n + 2 ∧ Hid (primeF n f d = primeL n) ∧ Hid (Kept [] w wr)) (fun t _ => 50 - (intOf t).toNat)
  case atStart => exact ⟨2, n, rfl, by omega, by omega, by omega, hide rfl, hide (Kept.refl _ _)⟩
  case round =>
    obtain ⟨d, f, rfl, hd1, hd2, hdf, HP, HK⟩ := hrel
    obtain ⟨s, hs⟩ : ∃ s, d * d = s := ⟨_, rfl⟩
    have hs9 : s ≤ 1600 := by rw [← hs]; exact Nat.mul_le_mul hd2 hd2
    have hs2 : (d : Int) * d = s := by rw [← hs]; simp
    by_cases hle : s ≤ n
    · have hle' : (s : Int) ≤ n := by omega
      obtain ⟨f', rfl⟩ : ∃ f', f = f' + 1 := ⟨f - 1, by
        have : d ≤ s := by rw [← hs]; exact Nat.le_mul_self d
        omega⟩
      have HP1 := hide (by rw [← unhide HP]; exact (primeF_le f' (by rw [hs]; exact hle)).symm : (if n % d = 0 then false else primeF n f' (d + 1)) = primeL n)
      have hd0 : ¬ (d : Int) = 0 := by omega
      obtain ⟨r, hr⟩ : ∃ r, n % d = r := ⟨_, rfl⟩
      have hr2 : (n : Int) % d = r := by rw [← hr]; simp
      have hr3 : (n : Int).tmod d = r := by rw [Int.tmod_eq_emod_of_nonneg (by omega), hr2]
      rw [hr] at HP1
      have hd40 : d < 40 := by
        rcases Nat.lt_or_ge d 40 with h | h
        · exact h
        · have : 40 * 40 ≤ d * d := Nat.mul_le_mul h h
          omega
      by_cases hr0 : r = 0
      · subst hr0
        rw [if_pos rfl] at HP1
        go_wp2
        go_ret
        exact ⟨by rw [← unhide HP1]; rfl, unhide HK⟩
      · rw [if_neg hr0] at HP1
        have hr0' : ¬ (r : Int) = 0 := by omega
        go_wp2
        go_roundw
        case rel => exact ⟨d + 1, f', by go_num, by omega, by omega, by omega, HP1, HK⟩
        case measure => simp [intOf]; omega
    · have hle' : ¬ (s : Int) ≤ n := by omega
      have HP1 := hide (by rw [← unhide HP]; exact primeF_gt f (by rw [hs]; exact hle) : primeL n = decide (1 < n))
      by_cases h1 : 1 < n
      · have h1' : (1 : Int) < n := by omega
        rw [decide_eq_true h1] at HP1
        go_wp2
        go_ret
        exact ⟨by rw [unhide HP1]; first | rfl | simp, unhide HK⟩
      · have h1' : ¬ (1 : Int) < n := by omega
        rw [decide_eq_false h1] at HP1
        go_wp2
        go_ret
        exact ⟨by rw [unhide HP1]; first | rfl | simp, unhide HK⟩
end Go.Proofs.YtpomkljgjihogaaDoor
