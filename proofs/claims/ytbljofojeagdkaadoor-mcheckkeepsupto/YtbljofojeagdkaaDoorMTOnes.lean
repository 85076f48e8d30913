import Derived.Test.YtbljofojeagdkaaDoorMT3
import Derived.Lib.BitFns
namespace Go.Proofs.YtbljofojeagdkaaDoor
open Go.RowKit Go.BigFrame
set_option linter.unusedVariables false
set_option linter.unusedSimpArgs false

def sw1 (x : Nat) : Nat := ((x / 2) &&& 6148914691236517205) + (x &&& 6148914691236517205)
def sw2 (x : Nat) : Nat := ((x / 4) &&& 3689348814741910323) + (x &&& 3689348814741910323)
def sw3 (x : Nat) : Nat := (x / 16 + x) &&& 1085102592571150095
def sw4 (x : Nat) : Nat := x + x / 256
def sw5 (x : Nat) : Nat := x + x / 65536
def sw6 (x : Nat) : Nat := x + x / 4294967296
theorem pop_zero : ∀ (f : Nat), Lib.popAux f 0 = 0
  | 0 => rfl
  | f + 1 => by unfold Lib.popAux; rw [show (0 : Nat) / 2 = 0 from rfl, pop_zero f]
theorem pop_short : ∀ (k f x : Nat), x < 2 ^ k → k ≤ f → Lib.popAux f x = Lib.popAux k x
  | 0, f, x, h, _ => by
    have : x = 0 := by simpa using h
    rw [this, pop_zero, pop_zero]
  | k + 1, 0, x, h, hf => by omega
  | k + 1, f + 1, x, h, hf => by
    unfold Lib.popAux
    rw [pop_short k f (x / 2) (by rw [Nat.pow_succ] at h; omega) (by omega)]
def swC (x : Nat) : Bool := (sw6 (sw5 (sw4 (sw3 (sw2 (sw1 x))))) &&& 127) == Lib.popAux 15 x
def swL (k : Nat) : Nat → Bool
  | 0 => true
  | n + 1 => swC (256 * k + n) && swL k n
theorem swL_at (k : Nat) : ∀ (n j : Nat), swL k n = true → j < n → swC (256 * k + j) = true
  | 0, j, _, h => by omega
  | n + 1, j, h, hj => by
    unfold swL at h
    rw [Bool.and_eq_true] at h
    rcases Nat.lt_or_ge j n with h1 | h1
    · exact swL_at k n j h.2 h1
    · rw [show j = n by omega]; exact h.1
theorem sw_two : ∀ (k : Fin 128), swL k.val 256 = true := by decide +kernel
theorem sw_all (x : Nat) (hx : x < 32768) : (sw6 (sw5 (sw4 (sw3 (sw2 (sw1 x))))) &&& 127) = Lib.onesCount x := by
  have h := swL_at (x / 256) 256 (x % 256) (sw_two ⟨x / 256, by omega⟩) (by omega)
  have e : 256 * (x / 256) + x % 256 = x := by omega
  rw [e] at h
  unfold swC at h
  rw [beq_iff_eq] at h
  rw [h]
  exact (pop_short 15 64 x (by omega) (by omega)).symm
theorem i64_and_natT (x y : Nat) (hx : x < 9223372036854775808) (hy : y < 9223372036854775808) : bits BinOp.and IntKind.i64 (x : Int) (y : Int) = ((x &&& y : Nat) : Int) := by
  have h1 : (BitVec.ofInt 64 (x : Int)).toNat = x := by rw [BitVec.ofInt_natCast, BitVec.toNat_ofNat]; exact Nat.mod_eq_of_lt (by omega)
  have h2 : (BitVec.ofInt 64 (y : Int)).toNat = y := by rw [BitVec.ofInt_natCast, BitVec.toNat_ofNat]; exact Nat.mod_eq_of_lt (by omega)
  have h := Nat.and_lt_two_pow (n := 63) x (by simpa using hy)
  show IntKind.i64.wrap ((BitVec.ofInt 64 (x : Int) &&& BitVec.ofInt 64 (y : Int)).toNat : Int) = _
  rw [BitVec.toNat_and, h1, h2]
  simp [IntKind.wrap, IntKind.signed, IntKind.bits]
  omega
theorem wrU (y : Int) : IntKind.u64.wrap y = y % 18446744073709551616 := by simp [IntKind.wrap, IntKind.signed, IntKind.bits]
theorem sw1_le (x : Nat) : sw1 x ≤ 2 * x := by
  have h1 := Nat.and_le_left (n := x / 2) (m := 6148914691236517205)
  have h2 := Nat.and_le_left (n := x) (m := 6148914691236517205)
  unfold sw1; omega
theorem sw2_le (x : Nat) : sw2 x ≤ 2 * x := by
  have h1 := Nat.and_le_left (n := x / 4) (m := 3689348814741910323)
  have h2 := Nat.and_le_left (n := x) (m := 3689348814741910323)
  unfold sw2; omega
theorem sw3_le (x : Nat) : sw3 x ≤ 2 * x := by
  have h1 := Nat.and_le_left (n := x / 16 + x) (m := 1085102592571150095)
  unfold sw3; omega
theorem sw1_eq (x : Nat) (h : x ≤ 1000000000) : IntKind.u64.wrap (bits BinOp.and IntKind.u64 ((x : Int) / 2) 6148914691236517205 + bits BinOp.and IntKind.u64 (x : Int) 6148914691236517205) = ((sw1 x : Nat) : Int) := by
  have e1 := u64_and_natT (x / 2) 6148914691236517205 (by omega) (by omega)
  have e2 := u64_and_natT x 6148914691236517205 (by omega) (by omega)
  have e3 := sw1_le x
  have c1 : ((x / 2 : Nat) : Int) = (x : Int) / 2 := by omega
  have c2 : ((6148914691236517205 : Nat) : Int) = 6148914691236517205 := rfl
  rw [c1, c2] at e1
  rw [c2] at e2
  rw [e1, e2, wrU]
  unfold sw1 at e3 ⊢
  omega
theorem sw2_eq (x : Nat) (h : x ≤ 1000000000) : IntKind.u64.wrap (bits BinOp.and IntKind.u64 ((x : Int) / 4) 3689348814741910323 + bits BinOp.and IntKind.u64 (x : Int) 3689348814741910323) = ((sw2 x : Nat) : Int) := by
  have e1 := u64_and_natT (x / 4) 3689348814741910323 (by omega) (by omega)
  have e2 := u64_and_natT x 3689348814741910323 (by omega) (by omega)
  have e3 := sw2_le x
  have c1 : ((x / 4 : Nat) : Int) = (x : Int) / 4 := by omega
  have c2 : ((3689348814741910323 : Nat) : Int) = 3689348814741910323 := rfl
  rw [c1, c2] at e1
  rw [c2] at e2
  rw [e1, e2, wrU]
  unfold sw2 at e3 ⊢
  omega
theorem sw3_eq (x : Nat) (h : x ≤ 1000000000) : bits BinOp.and IntKind.u64 (IntKind.u64.wrap ((x : Int) / 16 + (x : Int))) 1085102592571150095 = ((sw3 x : Nat) : Int) := by
  have e1 := u64_and_natT (x / 16 + x) 1085102592571150095 (by omega) (by omega)
  have c1 : ((x / 16 + x : Nat) : Int) = IntKind.u64.wrap ((x : Int) / 16 + x) := by rw [wrU]; omega
  have c2 : ((1085102592571150095 : Nat) : Int) = 1085102592571150095 := rfl
  rw [c1, c2] at e1
  exact e1
theorem sw4_eq (x : Nat) (h : x ≤ 1000000000) : IntKind.u64.wrap ((x : Int) + (x : Int) / 256) = ((sw4 x : Nat) : Int) := by rw [wrU]; unfold sw4; omega
theorem sw5_eq (x : Nat) (h : x ≤ 1000000000) : IntKind.u64.wrap ((x : Int) + (x : Int) / 65536) = ((sw5 x : Nat) : Int) := by rw [wrU]; unfold sw5; omega
theorem sw6_eq (x : Nat) (h : x ≤ 1000000000) : IntKind.u64.wrap ((x : Int) + (x : Int) / 4294967296) = ((sw6 x : Nat) : Int) := by rw [wrU]; unfold sw6; omega

set_option maxRecDepth 100000 in
set_option maxHeartbeats 1000000 in
theorem ones64_any (x : Nat) (w : World) (hx : x < 32768) :
    Calls Tryd.prog 72 #[.int .u64 x] w fun e w' => e = .returned (.int .i64 (Lib.onesCount x)) ∧ w' = w := by
  have b1 := sw1_le x
  have b2 := sw2_le (sw1 x)
  have b3 := sw3_le (sw2 (sw1 x))
  have b4 : sw4 (sw3 (sw2 (sw1 x))) ≤ 2 * sw3 (sw2 (sw1 x)) := by unfold sw4; omega
  have b5 : sw5 (sw4 (sw3 (sw2 (sw1 x)))) ≤ 2 * sw4 (sw3 (sw2 (sw1 x))) := by unfold sw5; omega
  have b6 : sw6 (sw5 (sw4 (sw3 (sw2 (sw1 x))))) ≤ 2 * sw5 (sw4 (sw3 (sw2 (sw1 x)))) := by unfold sw6; omega
  have HE := hide (sw_all x hx)
  have E1 := hide (sw1_eq x (by omega))
  have E2 := hide (sw2_eq (sw1 x) (by omega))
  have E3 := hide (sw3_eq (sw2 (sw1 x)) (by omega))
  have E4 := hide (sw4_eq (sw3 (sw2 (sw1 x))) (by omega))
  have E5 := hide (sw5_eq (sw4 (sw3 (sw2 (sw1 x)))) (by omega))
  have E6 := hide (sw6_eq (sw5 (sw4 (sw3 (sw2 (sw1 x))))) (by omega))
  have B := hide (by omega : sw6 (sw5 (sw4 (sw3 (sw2 (sw1 x))))) ≤ 1000000000)
  clear b1 b2 b3 b4 b5 b6
  go_enter Tryd.func72, Tryd.ntmps72
  go_wp2_with fail
  go_ret
  refine ⟨?_, rfl⟩
  simp only [unhide E1, unhide E2, unhide E3, unhide E4, unhide E5, unhide E6]
  show Ending.returned (Value.int .i64 (bits BinOp.and IntKind.i64 (wrap64 ((sw6 (sw5 (sw4 (sw3 (sw2 (sw1 x)))))  : Nat) : Int)) 127)) = _
  have hB := unhide B
  rw [show wrap64 ((sw6 (sw5 (sw4 (sw3 (sw2 (sw1 x))))) : Nat) : Int) = ((sw6 (sw5 (sw4 (sw3 (sw2 (sw1 x))))) : Nat) : Int) from by unfold wrap64; omega]
  have h9 := i64_and_natT (sw6 (sw5 (sw4 (sw3 (sw2 (sw1 x)))))) 127 (by omega) (by omega)
  rw [unhide HE] at h9
  exact congrArg (fun y => Ending.returned (Value.int .i64 y)) h9
end Go.Proofs.YtbljofojeagdkaaDoor
