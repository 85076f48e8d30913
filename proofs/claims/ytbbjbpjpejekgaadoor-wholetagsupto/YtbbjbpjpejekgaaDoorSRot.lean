import Derived.Test.YtbbjbpjpejekgaaDoorRowz
namespace Go.Proofs.YtbbjbpjpejekgaaDoor
open Go.RowKit
set_option linter.unusedVariables false
set_option linter.unusedSimpArgs false

set_option maxRecDepth 100000 in
set_option maxHeartbeats 1000000 in
theorem rot_any (x n : Nat) (w : World) (hx : x < 4294967296) (h1 : 1 ≤ n) (h2 : n ≤ 31) :
    Calls Tryd.prog 94 #[.int .u32 x, .int .i64 (-(n : Int))] w fun e w' => e = .returned (.int .u32 (rotr n x)) ∧ w' = w := by
  obtain ⟨m, hm⟩ : ∃ m, m + n = 32 := ⟨32 - n, by omega⟩
  have hs : bits .and .u64 (IntKind.u64.wrap (-(n : Int))) 31 = (m : Int) := by
    have e1 : IntKind.u64.wrap (-(n : Int)) = ((18446744073709551616 - n : Nat) : Int) := by rw [IntKind.wrap_u64]; omega
    rw [e1, show (31 : Int) = ((31 : Nat) : Int) from rfl, u64_and_nat _ _ (by omega) (by decide), show (31 : Nat) = 2 ^ 5 - 1 by decide, Nat.and_two_pow_sub_one_eq_mod]
    omega
  have hmn : (32 : Int) - (m : Int) = (n : Int) := by omega
  have hor : bits .or .u32 ((x : Int) * 2 ^ m % 4294967296) ((x : Int) / 2 ^ n) = (rotr n x : Nat) := by
    have e1 : (x : Int) * 2 ^ m % 4294967296 = ((x * 2 ^ m % 4294967296 : Nat) : Int) := by simp
    have e2 : (x : Int) / 2 ^ n = ((x / 2 ^ n : Nat) : Int) := by simp
    have e3 : x / 2 ^ n ≤ x := Nat.div_le_self _ _
    rw [e1, e2, u32_or_nat _ _ (Nat.mod_lt _ (by decide)) (by omega), ← rotr_or n x (by omega) hx, show 32 - n = m by omega]
  have hm32 : (m : Int) ≤ 32 := by omega
  have hn32 : (n : Int) ≤ 32 := by omega
  go_enter Tryd.func94, Tryd.ntmps94
  go_wp2
  go_ret
  exact ⟨rfl, rfl⟩

set_option maxRecDepth 100000 in
set_option maxHeartbeats 1000000 in
theorem turned_any (x i j l : Nat) (w : World) (hx : x < 4294967296) (hi : 1 ≤ i ∧ i ≤ 31) (hj : 1 ≤ j ∧ j ≤ 31) (hl : 1 ≤ l ∧ l ≤ 31) :
    Calls Tryd.prog 90 #[.int .u32 x, .int .i64 i, .int .i64 j, .int .i64 l] w fun e w' => e = .returned (.int .u32 (rotr i x ^^^ rotr j x ^^^ rotr l x : Nat)) ∧ w' = w := by
  have r1 := rotr_lt (x := x) (n := i) (by omega) hx
  have r2 := rotr_lt (x := x) (n := j) (by omega) hx
  have r3 := rotr_lt (x := x) (n := l) (by omega) hx
  have e1 : bits .xor .u32 (rotr i x : Int) (rotr j x : Int) = ((rotr i x ^^^ rotr j x : Nat) : Int) := u32_xor_nat _ _ r1 r2
  have e2 : bits .xor .u32 ((rotr i x ^^^ rotr j x : Nat) : Int) (rotr l x : Int) = ((rotr i x ^^^ rotr j x ^^^ rotr l x : Nat) : Int) := u32_xor_nat _ _ (xlt r1 r2) r3
  go_enter Tryd.func90, Tryd.ntmps90
  go_wp2_with fail
  refine (rot_any x i _ hx hi.1 hi.2).mono ?_
  rintro e w1 ⟨rfl, rfl⟩
  go_wp2_with fail
  refine (rot_any x j _ hx hj.1 hj.2).mono ?_
  rintro e w1 ⟨rfl, rfl⟩
  go_wp2_with fail
  refine (rot_any x l _ hx hl.1 hl.2).mono ?_
  rintro e w1 ⟨rfl, rfl⟩
  go_wp2
  go_ret
  exact ⟨rfl, rfl⟩
end Go.Proofs.YtbbjbpjpejekgaaDoor
