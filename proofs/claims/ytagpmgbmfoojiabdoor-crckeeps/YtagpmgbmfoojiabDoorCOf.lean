import Derived.Test.YtagpmgbmfoojiabDoorCLin
import Derived.Lib.TrailingZeros
namespace Go.Proofs.YtagpmgbmfoojiabDoor
open Go.RowKit
set_option linter.unusedVariables false
set_option linter.unusedSimpArgs false

/-- The library's table in its variable. -/
def Tab (w : World) : Prop := ∀ j, j < 32 → w.cell? ⟨0, j, none⟩ = some (.int .u8 (Lib.deBruijn32tab.getD j 0 : Nat))
theorem Tab.kept {w w' : World} (h : Tab w) (k : Kept [] w w') : Tab w' := fun j hj => k.cell (h j hj) (by simp)

theorem tz_key (x a : Nat) (hx : x < 4294967296) (hx0 : x ≠ 0) (hlow : x &&& (4294967296 - x) = a) :
    bits BinOp.and IntKind.u32 (x : Int) (-(x : Int) % 4294967296) * 125613361 % 4294967296 / 134217728 = ((a * 125613361 % 4294967296 / 134217728 : Nat) : Int) := by
  have e1 : -(x : Int) % 4294967296 = ((4294967296 - x : Nat) : Int) := by omega
  rw [e1, u32_and_nat x _ hx (by omega), hlow]
  omega

set_option maxRecDepth 100000 in
set_option maxHeartbeats 1000000 in
theorem tz32_any (x : Nat) (w : World) (hx : x < 4294967296) (hx0 : x ≠ 0) (hT : Tab w) :
    Calls Tryd.prog 25 #[.int .u32 x] w fun e w' => e = .returned (.int .i64 (Lib.ctz 32 x)) ∧ w' = w := by
  obtain ⟨hlow, hk⟩ := Lib.lowest_bit 32 x hx0 hx
  obtain ⟨hi, htab⟩ := Lib.deBruijn32_at _ hk
  have hcell := hT _ hi
  rw [htab] at hcell
  have key := tz_key x _ hx hx0 hlow
  have hne : ((x : Int) == 0) = false := by simp; omega
  obtain ⟨k, hke⟩ : ∃ k, Lib.ctz 32 x = k := ⟨_, rfl⟩
  rw [hke] at key hcell hk hi ⊢
  obtain ⟨idx, hidx⟩ : ∃ idx, 2 ^ k * 125613361 % 4294967296 / 134217728 = idx := ⟨_, rfl⟩
  rw [hidx] at key hcell hi
  clear hke hidx htab hlow hT
  go_enter Tryd.func25, Tryd.ntmps25
  go_wp2_with (simp only [key])
  go_ret
  exact ⟨rfl, rfl⟩

/-- The lowest bit taken off. -/
theorem off_low (c : Nat) (h0 : c ≠ 0) (h : c < 4294967296) : (c &&& (c - 1)) ^^^ 2 ^ Lib.ctz 32 c = c ∧ (c &&& (c - 1)) < c := by
  obtain ⟨m, hm, hk⟩ := Lib.ctzFrom_spec 32 c (by omega) h
  have e : Lib.ctz 32 c = Lib.ctzFrom 32 c := by simp [Lib.ctz, h0]
  rw [e]
  generalize Lib.ctzFrom 32 c = k at hm hk
  have hp : 0 < 2 ^ k := Nat.pow_pos (by omega)
  have e1 : c = 2 ^ k * (2 * m + 1) + 0 := by omega
  have e2 : c - 1 = 2 ^ k * (2 * m) + (2 ^ k - 1) := by rw [hm, Nat.mul_add]; omega
  have e3 : c &&& (c - 1) = 2 ^ k * (2 * m) := by
    apply Nat.eq_of_testBit_eq
    intro i
    rw [Nat.testBit_and, e2, Nat.testBit_two_pow_mul_add (2 * m) (by omega), Nat.testBit_two_pow_mul]
    conv => lhs; lhs; rw [hm]
    rw [Nat.testBit_two_pow_mul]
    by_cases hi : i < k
    · simp [hi, show ¬ k ≤ i by omega]
    · simp only [hi, if_false, show k ≤ i by omega, decide_true, Bool.true_and]
      obtain ⟨j, hj⟩ : ∃ j, i - k = j := ⟨_, rfl⟩
      rw [hj]
      cases j with
      | zero => simp [Nat.testBit_zero]
      | succ j => rw [Nat.testBit_succ, Nat.testBit_succ, show (2 * m + 1) / 2 = m by omega, show 2 * m / 2 = m by omega]; simp
  rw [e3]
  have e4 : c = 2 ^ k * (2 * m) + 2 ^ k := by rw [hm, Nat.mul_add]; omega
  refine ⟨?_, by omega⟩
  rw [e4]
  apply Nat.eq_of_testBit_eq
  intro i
  have e5 : 2 ^ k * (2 * m) + 2 ^ k = 2 ^ (k + 1) * m + 2 ^ k := by rw [Nat.pow_succ, Nat.mul_assoc]
  rw [Nat.testBit_xor, e5, Nat.testBit_two_pow_mul_add m (by rw [Nat.pow_succ]; omega), show 2 ^ k * (2 * m) = 2 ^ (k + 1) * m by rw [Nat.pow_succ, Nat.mul_assoc], Nat.testBit_two_pow_mul, Nat.testBit_two_pow]
  by_cases hi : i < k + 1
  · simp [hi, show ¬ k + 1 ≤ i by omega]
  · simp [hi, show k + 1 ≤ i by omega, show ¬ k = i by omega]
theorem zz_zero : zz 0 = 0 := rfl
theorem it_zero (e : Nat) : it zz e 0 = 0 := by induction e with | zero => rfl | succ e ih => rw [it_succ, ih]; rfl

set_option maxRecDepth 100000 in
set_option maxHeartbeats 1000000 in
theorem of_any (e : Nat) (ms : List Nat) (c : Nat) (w : World) (hc : c < 4294967296) (hL : Lin e ms) (hT : Tab w) :
    Calls Tryd.prog 19 #[.agg (row ms), .int .u32 c] w fun x w' => x = .returned (.int .u32 (it zz e c)) ∧ Kept [] w w' := by
  have HL := hide hL
  have HT := hide hT
  clear hL hT
  go_enter Tryd.func19, Tryd.ntmps19
  go_wp2
  obtain ⟨W, hW⟩ : ∃ W, w.alloc (.cells (row ms) 38) = W := ⟨_, rfl⟩
  have HK := hide (by rw [← hW]; exact (Kept.refl [] w).alloc _ : Kept [] w W)
  have HR := hide (by rw [← hW]; exact heap_alloc_new _ _ : W.heap[w.heap.size]? = some (.cells (row ms) 38 (0, 0)))
  have HTW := hide ((unhide HT).kept (unhide HK))
  rw [hW]
  clear hW HT
  go_loopw [1, 5] (fun t1 t5 wr => ∃ x y : Nat, x < 4294967296 ∧ y < 4294967296 ∧ t1 = .int .u32 x ∧ t5 = .int .u32 y ∧ Hid (y ^^^ it zz e x = it zz e c) ∧ wr = W) (fun t _ _ => (intOf t).toNat)
  case atStart => exact ⟨c, 0, hc, by decide, rfl, rfl, hide (by rw [Nat.zero_xor]), rfl⟩
  case round =>
    obtain ⟨x, y, hx, hy, rfl, rfl, Hy, rfl⟩ := hrel
    by_cases h0 : x = 0
    · subst h0
      go_wp2
      go_ret
      refine ⟨?_, unhide HK⟩
      have h1 := unhide Hy
      rw [it_zero, Nat.xor_zero] at h1
      rw [h1]; rfl
    · have hne : ((x : Int) != 0) = true := by simp; omega
      obtain ⟨o1, o2⟩ := off_low x h0 hx
      have hk := (Lib.lowest_bit 32 x h0 hx).2
      obtain ⟨k, hke⟩ : ∃ k, Lib.ctz 32 x = k := ⟨_, rfl⟩
      have ct := tz32_any x wr hx h0 (unhide HTW)
      rw [hke] at ct o1 hk
      have hkl : (k : Int) < 32 := by omega
      have hk0 : (0 : Int) ≤ k := by omega
      have hsub : ((x : Int) - 1) = ((x - 1 : Nat) : Int) := by omega
      have hand : bits .and .u32 (x : Int) ((x : Int) - 1) = ((x &&& (x - 1) : Nat) : Int) := by rw [hsub]; exact u32_and_nat x (x - 1) hx (by omega)
      have hx1 : (1 : Int) ≤ x := by omega
      have hx2 : (x : Int) ≤ 4294967295 := by omega
      have hms := (unhide HL).2 k hk
      have cg : wr.cell? ⟨w.heap.size, k, none⟩ = some (u32 (ms.getD k 0)) := by
        rw [cell_of_row _ _ _ _ _ _ (unhide HR), row_get _ _ (by rw [(unhide HL).1]; exact hk)]
      rw [hms] at cg
      have hz : it zz e (2 ^ k) < 4294967296 := it_lt (fun a h => zz_lt h) e (pow_lt32 hk)
      have HN := hide (show (y ^^^ it zz e (2 ^ k)) ^^^ it zz e (x &&& (x - 1)) = it zz e c by
        rw [← unhide Hy, Nat.xor_assoc, ← it_xor zz_xor, Nat.xor_comm (2 ^ k), o1])
      generalize it zz e (2 ^ k) = z at cg hz HN
      have hxor : bits .xor .u32 (y : Int) (z : Int) = ((y ^^^ z : Nat) : Int) := u32_xor_nat y z hy hz
      have HN' := hide (xlt hy hz)
      have O2 := hide o2
      clear hms o1 o2 hke hsub h0
      go_wp2_with fail
      refine ct.mono ?_
      rintro e1 w1 ⟨rfl, rfl⟩
      go_wp2
      go_roundw
      case rel => exact ⟨x &&& (x - 1), y ^^^ z, by have := unhide O2; omega, unhide HN', rfl, rfl, HN, trivial⟩
      case measure => simp [intOf]; have := unhide O2; omega
end Go.Proofs.YtagpmgbmfoojiabDoor
