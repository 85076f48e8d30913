import Derived.Test.YtagpmgbmfoojiaaDoorCJn
import Derived.Test.YtagpmgbmfoojiaaDoorCrcRef
namespace Go.Proofs.YtagpmgbmfoojiaaDoor
open Go.RowKit
set_option linter.unusedVariables false
set_option linter.unusedSimpArgs false

set_option maxRecDepth 100000 in
set_option maxHeartbeats 1000000 in
theorem turned_any (c : Nat) (w : World) (hc : c < 4294967296) :
    Calls Tryd.prog 20 #[.int .u32 c] w fun x w' => x = .returned (.int .u32 (rv 32 c)) ∧ w' = w := by
  go_enter Tryd.func20, Tryd.ntmps20
  go_wp2
  go_loopw [3, 4] (fun t3 t4 wr => ∃ k y : Nat, k ≤ 32 ∧ t3 = .int .u32 y ∧ t4 = .int .i64 k ∧ y < 2 ^ k ∧ Hid (y = rv k c) ∧ wr = w) (fun _ t _ => 32 - (intOf t).toNat)
  case atStart => exact ⟨0, 0, by omega, rfl, rfl, by omega, hide rfl, rfl⟩
  case round =>
    obtain ⟨k, y, hk, rfl, rfl, hyk, Hy, rfl⟩ := hrel
    by_cases hlt : k < 32
    · have hlt' : (k : Int) < 32 := by omega
      have hy2 : y < 2147483648 := Nat.lt_of_lt_of_le hyk (Nat.le_trans (Nat.pow_le_pow_right (by omega) (show k ≤ 31 by omega)) (by decide))
      have HP := hide (show y * 2 + c / 2 ^ k % 2 < 2 ^ (k + 1) by rw [Nat.pow_succ]; omega)
      have hd : (c : Int) / 2 ^ k = ((c / 2 ^ k : Nat) : Int) := by simp
      have hdl : c / 2 ^ k ≤ c := Nat.div_le_self _ _
      have HR := hide (show y * 2 + c / 2 ^ k % 2 = rv (k + 1) c by rw [unhide Hy]; rfl)
      generalize c / 2 ^ k = d at hd hdl HP HR
      clear hyk
      go_wp2
      go_roundw
      case rel =>
        refine ⟨k + 1, y * 2 + d % 2, by omega, ?_, by go_num, unhide HP, HR, trivial⟩
        go_num
      case measure => simp [intOf]; omega
    · have hlt' : ¬ (k : Int) < 32 := by omega
      have hk8 : k = 32 := by omega
      subst hk8
      go_wp2
      go_ret
      exact ⟨by rw [unhide Hy]; rfl, rfl⟩

set_option maxRecDepth 100000 in
set_option maxHeartbeats 1000000 in
theorem double_any (r : Nat) (w : World) (hr : r < 4294967296) :
    Calls Tryd.prog 21 #[.int .u32 r] w fun x w' => x = .returned (.int .u32 (dbl r)) ∧ w' = w := by
  by_cases h : 2147483648 ≤ r
  · have h' : (2147483648 : Int) ≤ r := by omega
    have hx : bits .xor .u32 ((r : Int) * 2 % 4294967296) 517762881 = (dbl r : Nat) := by
      rw [dbl_big h hr, show ((r : Int) * 2 % 4294967296) = ((r * 2 % 4294967296 : Nat) : Int) by omega, show (517762881 : Int) = ((517762881 : Nat) : Int) from rfl, u32_xor_nat _ _ (by omega) (by decide)]
    go_enter Tryd.func21, Tryd.ntmps21
    go_wp2
    go_ret
    exact ⟨rfl, rfl⟩
  · have h' : ¬ (2147483648 : Int) ≤ r := by omega
    go_enter Tryd.func21, Tryd.ntmps21
    go_wp2
    go_ret
    exact ⟨by rw [dbl_small (by omega)]; simp, rfl⟩

set_option maxRecDepth 100000 in
set_option maxHeartbeats 1000000 in
theorem times_any (a b : Nat) (w : World) (ha : a < 4294967296) (hb : b < 4294967296) :
    Calls Tryd.prog 25 #[.int .u32 a, .int .u32 b] w fun x w' => x = .returned (.int .u32 (hor a 32 b)) ∧ w' = w := by
  go_enter Tryd.func25, Tryd.ntmps25
  go_wp2
  go_loopw [5, 6] (fun t5 t6 wr => ∃ p y : Nat, p ≤ 32 ∧ t5 = .int .u32 y ∧ t6 = .int .i64 ((p : Int) - 1) ∧ y < 4294967296 ∧ Hid (y = hor a (32 - p) (b / 2 ^ p)) ∧ wr = w) (fun _ t _ => (intOf t + 1).toNat)
  case atStart => exact ⟨32, 0, by omega, rfl, rfl, by omega, hide rfl, rfl⟩
  case round =>
    obtain ⟨p, y, hp, rfl, rfl, hy, Hy, rfl⟩ := hrel
    by_cases h0 : p = 0
    · subst h0
      go_wp2
      go_ret
      exact ⟨by rw [unhide Hy]; simp, rfl⟩
    · obtain ⟨q, rfl⟩ : ∃ q, p = q + 1 := ⟨p - 1, by omega⟩
      have e1 : (((q + 1 : Nat) : Int) - 1) = (q : Int) := by omega
      rw [e1]
      have hq0 : (0 : Int) ≤ q := by omega
      have hq32 : (q : Int) < 32 := by omega
      have hd : (b : Int) / 2 ^ q = ((b / 2 ^ q : Nat) : Int) := by simp
      have HS := hide (show dbl y ^^^ b / 2 ^ q % 2 * a = hor a (32 - q) (b / 2 ^ q) by
        rw [show 32 - q = (32 - (q + 1)) + 1 by omega, hor, unhide Hy, Nat.pow_succ, ← Nat.div_div_eq_div_mul])
      obtain ⟨d, hdd⟩ : ∃ d, b / 2 ^ q = d := ⟨_, rfl⟩
      rw [hdd] at hd HS
      have HD := hide hdd
      clear hdd
      have hdy := dbl_lt hy
      clear Hy e1
      go_wp2_with fail
      refine (double_any y _ hy).mono ?_
      rintro x1 w1 ⟨rfl, rfl⟩
      generalize dbl y = z at hdy HS
      have hxa : bits .xor .u32 (z : Int) (a : Int) = ((z ^^^ a : Nat) : Int) := u32_xor_nat z a hdy ha
      rcases Nat.mod_two_eq_zero_or_one d with h2 | h2
      · have HS' := hide (by have := unhide HS; rw [h2, Nat.zero_mul, Nat.xor_zero] at this; exact this)
        have hb2 : ((d : Int) % 2 == 1) = false := by simp; omega
        go_wp2
        go_roundw
        case rel => exact ⟨q, z, by omega, rfl, by go_num, hdy, hide (by rw [unhide HD]; exact unhide HS'), trivial⟩
        case measure => simp [intOf]
      · have HS' := hide (by have := unhide HS; rw [h2, Nat.one_mul] at this; exact this)
        have hb2 : ((d : Int) % 2 == 1) = true := by simp; omega
        go_wp2
        go_roundw
        case rel => exact ⟨q, z ^^^ a, by omega, rfl, by go_num, xlt hdy ha, hide (by rw [unhide HD]; exact unhide HS'), trivial⟩
        case measure => simp [intOf]
end Go.Proofs.YtagpmgbmfoojiaaDoor
