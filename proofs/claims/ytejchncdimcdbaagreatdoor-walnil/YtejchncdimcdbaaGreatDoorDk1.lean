import Derived.Test.YtejchncdimcdbaaGreatDoorDkM
import Derived.Test.YtejchncdimcdbaaGreatDoorCat
import Derived.BigFrame
namespace Go.Proofs.YtejchncdimcdbaaGreatDoor
open Go.RowKit Go.BigFrame
set_option linter.unusedVariables false
set_option linter.unusedSimpArgs false

def wtn (n m : Int) : Int := min (max n 0) m

set_option maxRecDepth 100000 in
set_option maxHeartbeats 1000000 in
theorem within_any (n m : Int) (w : World) :
    Calls Tryz.prog 74 #[.int .i64 n, .int .i64 m] w fun e w' => e = .returned (.int .i64 (wtn n m)) ∧ w' = w := by
  go_enter Tryz.func74, Tryz.ntmps74
  go_wp2
  all_goals
    go_ret
    refine ⟨?_, rfl⟩
    simp
    unfold wtn
    (repeat' split at *) <;> omega

set_option maxRecDepth 100000 in
set_option maxHeartbeats 1000000 in
theorem rwithin_any (n m : Int) (w : World) (hm : 0 ≤ m) :
    Calls Tryz.prog 126 #[.int .i64 n, .int .i64 m] w fun e w' => e = .returned (.int .i64 (wtn n m)) ∧ w' = w := by
  go_enter Tryz.func126, Tryz.ntmps126
  go_wp2
  all_goals
    go_ret
    refine ⟨?_, rfl⟩
    simp
    unfold wtn
    (repeat' split at *) <;> omega

def tse (p s : Nat) : Nat := (s - p % s) % s

set_option maxRecDepth 100000 in
set_option maxHeartbeats 1000000 in
theorem toSectorEnd_any (p s : Nat) (w : World) (hp : p ≤ 140737488355328) (hs : 1 ≤ s) (hs2 : s ≤ 4096) :
    Calls Tryz.prog 125 #[.int .i64 p, .int .i64 s] w fun e w' => e = .returned (.int .i64 (tse p s : Nat)) ∧ w' = w := by
  have h0 : ((s : Int) == 0) = false := by simp; omega
  have h1 : p % s < s := Nat.mod_lt _ (by omega)
  have h2 : (wrap64 ((s : Int) - (p : Int) % (s : Int))).tmod (s : Int) = ((tse p s : Nat) : Int) := by
    have h3 : (s : Int) - (p : Int) % (s : Int) = ((s - p % s : Nat) : Int) := by omega
    rw [h3]
    have h4 : wrap64 ((s - p % s : Nat) : Int) = ((s - p % s : Nat) : Int) := by unfold wrap64; omega
    rw [h4]
    rfl
  have H2 := hide h2
  clear h1 h2
  go_enter Tryz.func125, Tryz.ntmps125
  go_wp2
  go_ret
  exact ⟨by rw [← unhide H2]; rfl, rfl⟩

def nameB (b : Nat) : Bool := decide (97 ≤ b ∧ b ≤ 122) || decide (48 ≤ b ∧ b ≤ 57) || decide (b = 45)

set_option maxRecDepth 100000 in
set_option maxHeartbeats 1000000 in
theorem isNameByte_any (b : Nat) (w : World) (hb : b < 256) :
    Calls Tryz.prog 127 #[.int .u8 b] w fun e w' => e = .returned (.bool (nameB b)) ∧ w' = w := by
  go_enter Tryz.func127, Tryz.ntmps127
  go_wp2
  all_goals
    go_ret
    refine ⟨?_, rfl⟩
    simp
    unfold nameB
    rw [Bool.eq_iff_iff]
    simp
    omega
end Go.Proofs.YtejchncdimcdbaaGreatDoor
