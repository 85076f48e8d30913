import Derived.Test.YtgnbigijpneebaaDoorDChk
import Derived.Lib.BitFns
namespace Go.Proofs.YtgnbigijpneebaaDoor
open Go.RowKit Go.BigFrame
set_option linter.unusedVariables false
set_option linter.unusedSimpArgs false

/-- How many ones a number has. -/
def ones (x : Nat) : Nat := Lib.onesCount x
theorem pop_zero (f : Nat) : Lib.popAux f 0 = 0 := by
  induction f with
  | zero => rfl
  | succ f ih => show 0 % 2 + Lib.popAux f (0 / 2) = 0; simpa using ih
theorem pop_fuel (f : Nat) : ∀ z, z < 2 ^ f → Lib.popAux (f + 1) z = Lib.popAux f z := by
  induction f with
  | zero => intro z hz; have : z = 0 := by omega
            subst this; rfl
  | succ f ih =>
    intro z hz
    show z % 2 + Lib.popAux (f + 1) (z / 2) = z % 2 + Lib.popAux f (z / 2)
    rw [ih (z / 2) (by rw [Nat.pow_succ] at hz; omega)]
theorem ones_step (x : Nat) (h : x < 65536) : ones x = x % 2 + ones (x / 2) := by
  show x % 2 + Lib.popAux 63 (x / 2) = x % 2 + Lib.popAux 64 (x / 2)
  rw [pop_fuel 63 (x / 2) (by omega)]
theorem pop_eight (f x : Nat) : Lib.popAux (f + 8) x = Lib.popAux 8 (x % 256) + Lib.popAux f (x / 256) := by
  simp only [Lib.popAux, Nat.div_div_eq_div_mul]
  have h0 : x % 256 % 2 = x % 2 := by omega
  have h1 : x % 256 / 2 % 2 = x / 2 % 2 := by omega
  have h2 : x % 256 / 4 % 2 = x / 4 % 2 := by omega
  have h3 : x % 256 / 8 % 2 = x / 8 % 2 := by omega
  have h4 : x % 256 / 16 % 2 = x / 16 % 2 := by omega
  have h5 : x % 256 / 32 % 2 = x / 32 % 2 := by omega
  have h6 : x % 256 / 64 % 2 = x / 64 % 2 := by omega
  have h7 : x % 256 / 128 % 2 = x / 128 % 2 := by omega
  simp only [Nat.reduceMul, h0, h1, h2, h3, h4, h5, h6, h7]
  omega
theorem ones_small (y : Nat) (h : y < 256) : ones y = Lib.popAux 8 y := by
  show Lib.popAux (56 + 8) y = _
  rw [pop_eight, Nat.div_eq_of_lt h, pop_zero, Nat.mod_eq_of_lt h]; rfl
theorem ones_split (x : Nat) (h : x < 65536) : ones x = ones (x / 256) + ones (x % 256) := by
  rw [ones_small (x / 256) (by omega), ones_small (x % 256) (by omega)]
  show Lib.popAux (56 + 8) x = _
  rw [pop_eight]
  have e : Lib.popAux 56 (x / 256) = Lib.popAux 8 (x / 256) := by
    show Lib.popAux (48 + 8) (x / 256) = _
    rw [pop_eight, Nat.div_eq_of_lt (by omega : x / 256 < 256), pop_zero, Nat.mod_eq_of_lt (by omega)]; rfl
  rw [e]; omega
theorem u16_and255 (m : Nat) (h : m < 65536) : bits .and .u16 (m : Int) 255 = ((m : Int) % 256) := by
  have h1 : (BitVec.ofInt 16 (m : Int)).toNat = m := by rw [BitVec.ofInt_natCast, BitVec.toNat_ofNat]; exact Nat.mod_eq_of_lt (by omega)
  have h2 : (BitVec.ofInt 16 (255 : Int)).toNat = 255 := by decide
  show IntKind.u16.wrap ((BitVec.ofInt 16 (m : Int) &&& BitVec.ofInt 16 (255 : Int)).toNat : Int) = _
  rw [BitVec.toNat_and, h1, h2, show (255 : Nat) = 2 ^ 8 - 1 by rfl, Nat.and_two_pow_sub_one_eq_mod]
  simp [IntKind.wrap, IntKind.signed, IntKind.bits]
  omega

set_option maxRecDepth 100000 in
theorem fold_pop : (⟨((([0, 1, 1, 2, 1, 2, 2, 3, 1, 2, 2, 3, 2, 3, 3, 4, 1, 2, 2, 3, 2, 3, 3, 4, 2, 3, 3, 4, 3, 4, 4, 5, 1, 2, 2, 3, 2, 3, 3, 4, 2, 3, 3, 4, 3, 4, 4, 5, 2, 3, 3, 4, 3, 4, 4, 5, 3, 4, 4, 5, 4, 5, 5, 6] : List UInt8).append [1, 2, 2, 3, 2, 3, 3, 4, 2, 3, 3, 4, 3, 4, 4, 5, 2, 3, 3, 4, 3, 4, 4, 5, 3, 4, 4, 5, 4, 5, 5, 6, 2, 3, 3, 4, 3, 4, 4, 5, 3, 4, 4, 5, 4, 5, 5, 6, 3, 4, 4, 5, 4, 5, 5, 6, 4, 5, 5, 6, 5, 6, 6, 7]).append (([1, 2, 2, 3, 2, 3, 3, 4, 2, 3, 3, 4, 3, 4, 4, 5, 2, 3, 3, 4, 3, 4, 4, 5, 3, 4, 4, 5, 4, 5, 5, 6, 2, 3, 3, 4, 3, 4, 4, 5, 3, 4, 4, 5, 4, 5, 5, 6, 3, 4, 4, 5, 4, 5, 5, 6, 4, 5, 5, 6, 5, 6, 6, 7] : List UInt8).append [2, 3, 3, 4, 3, 4, 4, 5, 3, 4, 4, 5, 4, 5, 5, 6, 3, 4, 4, 5, 4, 5, 5, 6, 4, 5, 5, 6, 5, 6, 6, 7, 3, 4, 4, 5, 4, 5, 5, 6, 4, 5, 5, 6, 5, 6, 6, 7, 4, 5, 5, 6, 5, 6, 6, 7, 5, 6, 6, 7, 6, 7, 7, 8])).toArray⟩ : ByteArray) = Lib.pop8tab := by rfl

set_option maxRecDepth 100000 in
set_option maxHeartbeats 1000000 in
theorem ones16_any (x : Nat) (w : World) (hx : x < 65536) :
    Calls Tryd.prog 78 #[.int .u16 x] w fun e w' => e = .returned (.int .i64 (ones x)) ∧ Kept [] w w' := by
  go_enter Tryd.func78, Tryd.ntmps78
  have q1 : (0 : Int) ≤ (x : Int) / 256 := by omega
  have q2 : (x : Int) / 256 ≤ 255 := by omega
  have q3 : (0 : Int) ≤ (x : Int) % 256 := by omega
  have q4 : (x : Int) % 256 ≤ 255 := by omega
  have qa := u16_and255 x hx
  have hp1 : Lib.pop8 ((x : Int) / 256) = (ones (x / 256) : Int) := Lib.pop8_eq ⟨x / 256, by omega⟩
  have hp2 : Lib.pop8 ((x : Int) % 256) = (ones (x % 256) : Int) := Lib.pop8_eq ⟨x % 256, by omega⟩
  have l1 : ones (x / 256) ≤ 8 := Lib.onesCount_le8 ⟨x / 256, by omega⟩
  have l2 : ones (x % 256) ≤ 8 := Lib.onesCount_le8 ⟨x % 256, by omega⟩
  have HSP := hide (ones_split x hx)
  go_wp2_with fail
  rw [fold_pop]
  go_quiet (fail)
  go_wp2
  go_ret
  exact ⟨by rw [unhide HSP]; simp, (Kept.refl [] w).drewN _⟩

set_option maxRecDepth 100000 in
set_option maxHeartbeats 1000000 in
theorem refOnes_any (x : Nat) (w : World) (hx : x < 65536) :
    Calls Tryd.prog 84 #[.int .u16 x] w fun e w' => e = .returned (.int .i64 (ones x)) ∧ w' = w := by
  have hxo : ones x ≤ 16 := by
    have l1 : ones (x / 256) ≤ 8 := Lib.onesCount_le8 ⟨x / 256, by omega⟩
    have l2 : ones (x % 256) ≤ 8 := Lib.onesCount_le8 ⟨x % 256, by omega⟩
    rw [ones_split x hx]; omega
  go_enter Tryd.func84, Tryd.ntmps84
  go_wp2_with fail
  go_loopw [0, 3] (fun t0 t3 wr => ∃ (y n : Nat), t0 = .int .u16 y ∧ t3 = .int .i64 n ∧ y ≤ x ∧ Hid (n + ones y = ones x) ∧ wr = w) (fun t _ _ => (intOf t).toNat)
  case atStart => exact ⟨x, 0, rfl, rfl, Nat.le_refl _, hide (by simp), rfl⟩
  case round =>
    obtain ⟨y, n, rfl, rfl, hy, HS, rfl⟩ := hrel
    have hn : n ≤ 16 := by have := unhide HS; omega
    by_cases h0 : y = 0
    · have HN := hide (by have h9 := unhide HS; rw [h0, show ones 0 = 0 from pop_zero 64] at h9; simpa using h9 : n = ones x)
      have hlt : ((y : Int) > 0) = False := by rw [h0]; simp
      have hlt2 : (0 < y) = False := by rw [h0]; simp
      have H0 := hide h0
      clear h0
      go_wp2
      go_ret
      exact ⟨by rw [unhide HN]; rfl, rfl⟩
    · have hlt : (y : Int) > 0 := by omega
      have HN := hide (by have h9 := unhide HS; rw [ones_step y (by omega)] at h9; omega : (n + y % 2) + ones (y / 2) = ones x)
      have hlt2 : 0 < y := by omega
      go_wp2
      go_roundw
      case rel => exact ⟨y / 2, n + y % 2, by simp, by simp, by omega, HN, trivial⟩
      case measure => simp [intOf]; omega

end Go.Proofs.YtgnbigijpneebaaDoor
