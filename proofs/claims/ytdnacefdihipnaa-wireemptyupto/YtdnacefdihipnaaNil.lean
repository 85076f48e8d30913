import Derived.Test.YtdnacefdihipnaaTells
namespace Go.Proofs.Ytdnacefdihipnaa
open Go.RowKit
set_option linter.unusedVariables false
set_option linter.unusedSimpArgs false

set_option maxRecDepth 100000 in
set_option maxHeartbeats 2000000 in
theorem wnumber_nil (x n : Int) (w : World) :
    Calls Try.prog 59 #[.pointer none, .int .u64 x, .int .i64 n] w fun r w' => r = .returned (.tuple #[]) ∧ Kept [] w w' := by
  go_enter Try.func59, Try.ntmps59
  go_wp2
  (try simp only [Exit.inBlock, Exit.then])
  refine bodyPost_ret (results_none rfl _ _ _) rfl ?_
  refine ⟨rfl, ?_⟩
  repeat (first | exact Kept.refl _ _ | apply Kept.drew | apply Kept.drewN | apply Kept.alloc)

set_option maxRecDepth 100000 in
set_option maxHeartbeats 2000000 in
theorem wu8_nil (x : Nat) (w : World) (hx : x < 256 ^ 1) :
    Calls Try.prog 33 #[.pointer none, .int .u8 x] w fun r w' => r = .returned (.tuple #[]) ∧ Kept [] w w' := by
  go_enter Try.func33, Try.ntmps33
  have hx2 : (x : Int) ≤ 256 ^ 1 - 1 := by omega
  simp at hx2
  go_wp2_with fail
  refine (wnumber_nil _ _ _).mono ?_
  rintro r w1 ⟨rfl, k1⟩
  go_wp2
  go_end0
  exact ⟨rfl, k1⟩

set_option maxRecDepth 100000 in
set_option maxHeartbeats 2000000 in
theorem wu16_nil (x : Nat) (w : World) (hx : x < 256 ^ 2) :
    Calls Try.prog 30 #[.pointer none, .int .u16 x] w fun r w' => r = .returned (.tuple #[]) ∧ Kept [] w w' := by
  go_enter Try.func30, Try.ntmps30
  have hx2 : (x : Int) ≤ 256 ^ 2 - 1 := by omega
  simp at hx2
  go_wp2_with fail
  refine (wnumber_nil _ _ _).mono ?_
  rintro r w1 ⟨rfl, k1⟩
  go_wp2
  go_end0
  exact ⟨rfl, k1⟩

set_option maxRecDepth 100000 in
set_option maxHeartbeats 2000000 in
theorem wu32_nil (x : Nat) (w : World) (hx : x < 256 ^ 4) :
    Calls Try.prog 34 #[.pointer none, .int .u32 x] w fun r w' => r = .returned (.tuple #[]) ∧ Kept [] w w' := by
  go_enter Try.func34, Try.ntmps34
  have hx2 : (x : Int) ≤ 256 ^ 4 - 1 := by omega
  simp at hx2
  go_wp2_with fail
  refine (wnumber_nil _ _ _).mono ?_
  rintro r w1 ⟨rfl, k1⟩
  go_wp2
  go_end0
  exact ⟨rfl, k1⟩

set_option maxRecDepth 100000 in
set_option maxHeartbeats 2000000 in
theorem wu64_nil (x : Nat) (w : World) (hx : x < 256 ^ 8) :
    Calls Try.prog 35 #[.pointer none, .int .u64 x] w fun r w' => r = .returned (.tuple #[]) ∧ Kept [] w w' := by
  go_enter Try.func35, Try.ntmps35
  have hx2 : (x : Int) ≤ 256 ^ 8 - 1 := by omega
  simp at hx2
  go_wp2_with fail
  refine (wnumber_nil _ _ _).mono ?_
  rintro r w1 ⟨rfl, k1⟩
  go_wp2
  go_end0
  exact ⟨rfl, k1⟩

set_option maxRecDepth 100000 in
set_option maxHeartbeats 2000000 in
theorem wuvar_nil (x : Int) (w : World) :
    Calls Try.prog 29 #[.pointer none, .int .u64 x] w fun r w' => r = .returned (.tuple #[]) ∧ Kept [] w w' := by
  go_enter Try.func29, Try.ntmps29
  go_wp2
  (try simp only [Exit.inBlock, Exit.then])
  refine bodyPost_ret (results_none rfl _ _ _) rfl ?_
  refine ⟨rfl, ?_⟩
  repeat (first | exact Kept.refl _ _ | apply Kept.drew | apply Kept.drewN | apply Kept.alloc)

set_option maxRecDepth 100000 in
set_option maxHeartbeats 2000000 in
theorem wraw_nil (ao : Option Addr) (n c : Nat) (w : World) :
    Calls Try.prog 36 #[.pointer none, .slice ao n c] w fun r w' => r = .returned (.tuple #[]) ∧ Kept [] w w' := by
  go_enter Try.func36, Try.ntmps36
  go_wp2
  (try simp only [Exit.inBlock, Exit.then])
  refine bodyPost_ret (results_none rfl _ _ _) rfl ?_
  refine ⟨rfl, ?_⟩
  repeat (first | exact Kept.refl _ _ | apply Kept.drew | apply Kept.drewN | apply Kept.alloc)

set_option maxRecDepth 100000 in
set_option maxHeartbeats 2000000 in
theorem wblob_nil (ao : Option Addr) (n c : Nat) (w : World) (hn : n ≤ 140737488355328) :
    Calls Try.prog 37 #[.pointer none, .slice ao n c] w fun r w' => r = .returned (.tuple #[]) ∧ Kept [] w w' := by
  go_enter Try.func37, Try.ntmps37
  have hn2 : (n : Int) ≤ 140737488355328 := by omega
  go_wp2_with fail
  refine (wuvar_nil _ _).mono ?_
  rintro r w1 ⟨rfl, k1⟩
  go_wp2_with fail
  refine (wraw_nil _ _ _ _).mono ?_
  rintro r w2 ⟨rfl, k2⟩
  go_wp2
  go_end0
  exact ⟨rfl, k1.trans k2 (by simp)⟩

set_option maxRecDepth 100000 in
set_option maxHeartbeats 2000000 in
theorem wbytes_nil  (w : World) :
    Calls Try.prog 15 #[.pointer none] w fun r w' => r = .returned (.slice none 0 0) ∧ Kept [] w w' := by
  go_enter Try.func15, Try.ntmps15
  go_wp2
  go_ret
  refine ⟨rfl, ?_⟩
  repeat (first | exact Kept.refl _ _ | apply Kept.drew | apply Kept.drewN | apply Kept.alloc)

set_option maxRecDepth 100000 in
set_option maxHeartbeats 2000000 in
theorem wlen_nil  (w : World) :
    Calls Try.prog 13 #[.pointer none] w fun r w' => r = .returned (.int .i64 0) ∧ Kept [] w w' := by
  go_enter Try.func13, Try.ntmps13
  go_wp2
  go_ret
  refine ⟨rfl, ?_⟩
  repeat (first | exact Kept.refl _ _ | apply Kept.drew | apply Kept.drewN | apply Kept.alloc)

set_option maxRecDepth 100000 in
set_option maxHeartbeats 2000000 in
theorem rerr_nil  (w : World) :
    Calls Try.prog 23 #[.pointer none] w fun r w' => r = .returned (.int .i64 5) ∧ Kept [] w w' := by
  go_enter Try.func23, Try.ntmps23
  go_wp2
  go_ret
  refine ⟨rfl, ?_⟩
  repeat (first | exact Kept.refl _ _ | apply Kept.drew | apply Kept.drewN | apply Kept.alloc)

set_option maxRecDepth 100000 in
set_option maxHeartbeats 2000000 in
theorem rat_nil  (w : World) :
    Calls Try.prog 22 #[.pointer none] w fun r w' => r = .returned (.int .i64 0) ∧ Kept [] w w' := by
  go_enter Try.func22, Try.ntmps22
  go_wp2
  go_ret
  refine ⟨rfl, ?_⟩
  repeat (first | exact Kept.refl _ _ | apply Kept.drew | apply Kept.drewN | apply Kept.alloc)

set_option maxRecDepth 100000 in
set_option maxHeartbeats 2000000 in
theorem rdone_nil  (w : World) :
    Calls Try.prog 21 #[.pointer none] w fun r w' => r = .returned (.int .i64 5) ∧ Kept [] w w' := by
  go_enter Try.func21, Try.ntmps21
  go_wp2_with fail
  refine (rerr_nil _).mono ?_
  rintro r w1 ⟨rfl, k1⟩
  have K1 := hide k1
  clear k1
  go_wp2
  go_ret
  refine ⟨rfl, ?_⟩
  repeat (first | exact unhide K1 | apply Kept.drew | apply Kept.drewN | apply Kept.alloc)

set_option maxRecDepth 100000 in
set_option maxHeartbeats 2000000 in
theorem rnumber_nil (n : Int) (w : World) :
    Calls Try.prog 61 #[.pointer none, .int .i64 n] w fun r w' => r = .returned (.int .u64 0) ∧ Kept [] w w' := by
  go_enter Try.func61, Try.ntmps61
  go_wp2_with fail
  refine (rerr_nil _).mono ?_
  rintro r w1 ⟨rfl, k1⟩
  have K1 := hide k1
  clear k1
  go_wp2
  go_ret
  refine ⟨rfl, ?_⟩
  repeat (first | exact unhide K1 | apply Kept.drew | apply Kept.drewN | apply Kept.alloc)

set_option maxRecDepth 100000 in
set_option maxHeartbeats 2000000 in
theorem ru8_nil  (w : World) :
    Calls Try.prog 32 #[.pointer none] w fun r w' => r = .returned (.int .u8 0) ∧ Kept [] w w' := by
  go_enter Try.func32, Try.ntmps32
  go_wp2_with fail
  refine (rnumber_nil _ _).mono ?_
  rintro r w1 ⟨rfl, k1⟩
  have K1 := hide k1
  clear k1
  go_wp2
  go_ret
  refine ⟨rfl, ?_⟩
  repeat (first | exact unhide K1 | apply Kept.drew | apply Kept.drewN | apply Kept.alloc)

set_option maxRecDepth 100000 in
set_option maxHeartbeats 2000000 in
theorem ru16_nil  (w : World) :
    Calls Try.prog 44 #[.pointer none] w fun r w' => r = .returned (.int .u16 0) ∧ Kept [] w w' := by
  go_enter Try.func44, Try.ntmps44
  go_wp2_with fail
  refine (rnumber_nil _ _).mono ?_
  rintro r w1 ⟨rfl, k1⟩
  have K1 := hide k1
  clear k1
  go_wp2
  go_ret
  refine ⟨rfl, ?_⟩
  repeat (first | exact unhide K1 | apply Kept.drew | apply Kept.drewN | apply Kept.alloc)

set_option maxRecDepth 100000 in
set_option maxHeartbeats 2000000 in
theorem ru32_nil  (w : World) :
    Calls Try.prog 45 #[.pointer none] w fun r w' => r = .returned (.int .u32 0) ∧ Kept [] w w' := by
  go_enter Try.func45, Try.ntmps45
  go_wp2_with fail
  refine (rnumber_nil _ _).mono ?_
  rintro r w1 ⟨rfl, k1⟩
  have K1 := hide k1
  clear k1
  go_wp2
  go_ret
  refine ⟨rfl, ?_⟩
  repeat (first | exact unhide K1 | apply Kept.drew | apply Kept.drewN | apply Kept.alloc)

set_option maxRecDepth 100000 in
set_option maxHeartbeats 2000000 in
theorem ru64_nil  (w : World) :
    Calls Try.prog 46 #[.pointer none] w fun r w' => r = .returned (.int .u64 0) ∧ Kept [] w w' := by
  go_enter Try.func46, Try.ntmps46
  go_wp2_with fail
  refine (rnumber_nil _ _).mono ?_
  rintro r w1 ⟨rfl, k1⟩
  have K1 := hide k1
  clear k1
  go_wp2
  go_ret
  refine ⟨rfl, ?_⟩
  repeat (first | exact unhide K1 | apply Kept.drew | apply Kept.drewN | apply Kept.alloc)

set_option maxRecDepth 100000 in
set_option maxHeartbeats 2000000 in
theorem ruvar_nil  (w : World) :
    Calls Try.prog 31 #[.pointer none] w fun r w' => r = .returned (.int .u64 0) ∧ Kept [] w w' := by
  go_enter Try.func31, Try.ntmps31
  go_wp2_with fail
  refine (rerr_nil _).mono ?_
  rintro r w1 ⟨rfl, k1⟩
  have K1 := hide k1
  clear k1
  go_wp2
  go_ret
  refine ⟨rfl, ?_⟩
  repeat (first | exact unhide K1 | apply Kept.drew | apply Kept.drewN | apply Kept.alloc)

set_option maxRecDepth 100000 in
set_option maxHeartbeats 2000000 in
theorem rraw_nil (n : Int) (w : World) :
    Calls Try.prog 47 #[.pointer none, .int .i64 n] w fun r w' => r = .returned (.slice none 0 0) ∧ Kept [] w w' := by
  go_enter Try.func47, Try.ntmps47
  go_wp2_with fail
  refine (rerr_nil _).mono ?_
  rintro r w1 ⟨rfl, k1⟩
  have K1 := hide k1
  clear k1
  go_wp2
  go_ret
  refine ⟨rfl, ?_⟩
  repeat (first | exact unhide K1 | apply Kept.drew | apply Kept.drewN | apply Kept.alloc)

set_option maxRecDepth 100000 in
set_option maxHeartbeats 2000000 in
theorem rblob_nil (n : Int) (w : World) :
    Calls Try.prog 48 #[.pointer none, .int .i64 n] w fun r w' => r = .returned (.slice none 0 0) ∧ Kept [] w w' := by
  go_enter Try.func48, Try.ntmps48
  go_wp2_with fail
  refine (rerr_nil _).mono ?_
  rintro r w1 ⟨rfl, k1⟩
  have K1 := hide k1
  clear k1
  go_wp2
  go_ret
  refine ⟨rfl, ?_⟩
  repeat (first | exact unhide K1 | apply Kept.drew | apply Kept.drewN | apply Kept.alloc)

set_option maxRecDepth 100000 in
set_option maxHeartbeats 4000000 in
theorem lay_nil (k : Int) (x : Nat) (n : Int) (ao : Option Addr) (m c : Nat) (w : World) (hx : x < 18446744073709551616) (hm : m ≤ 140737488355328) :
    Calls Try.prog 10 #[.pointer none, opV k x n (.slice ao m c)] w fun e w' => e = .returned (.tuple #[]) ∧ Kept [] w w' := by
  have hx' : (x : Int) ≤ 18446744073709551615 := by omega
  rcases kinds7 k with rfl | rfl | rfl | rfl | rfl | rfl | rfl | ⟨h1, h2, h3, h4, h5, h6, h7⟩
  · go_enter Try.func10, Try.ntmps10
    go_wp2_with fail
    rw [show ((x : Int) % 256) = ((x % 256 : Nat) : Int) from by omega]
    refine (wu8_nil (x % 256) _ (by omega)).mono ?_
    rintro e w1 ⟨rfl, k1⟩
    have K1 := hide (((Kept.refl [] w).alloc _).trans k1 (by simp))
    clear k1
    go_wp2
    go_end0
    exact ⟨rfl, unhide K1⟩
  · go_enter Try.func10, Try.ntmps10
    go_wp2_with fail
    rw [show IntKind.u16.wrap (x : Int) = ((x % 65536 : Nat) : Int) from by rw [IntKind.wrap_u16]; omega]
    refine (wu16_nil (x % 65536) _ (by omega)).mono ?_
    rintro e w1 ⟨rfl, k1⟩
    have K1 := hide (((Kept.refl [] w).alloc _).trans k1 (by simp))
    clear k1
    go_wp2
    go_end0
    exact ⟨rfl, unhide K1⟩
  · go_enter Try.func10, Try.ntmps10
    go_wp2_with fail
    rw [show ((x : Int) % 4294967296) = ((x % 4294967296 : Nat) : Int) from by omega]
    refine (wu32_nil (x % 4294967296) _ (by omega)).mono ?_
    rintro e w1 ⟨rfl, k1⟩
    have K1 := hide (((Kept.refl [] w).alloc _).trans k1 (by simp))
    clear k1
    go_wp2
    go_end0
    exact ⟨rfl, unhide K1⟩
  · go_enter Try.func10, Try.ntmps10
    go_wp2_with fail
    refine (wu64_nil x _ (by omega)).mono ?_
    rintro e w1 ⟨rfl, k1⟩
    have K1 := hide (((Kept.refl [] w).alloc _).trans k1 (by simp))
    clear k1
    go_wp2
    go_end0
    exact ⟨rfl, unhide K1⟩
  · go_enter Try.func10, Try.ntmps10
    go_wp2_with fail
    refine (wuvar_nil x _).mono ?_
    rintro e w1 ⟨rfl, k1⟩
    have K1 := hide (((Kept.refl [] w).alloc _).trans k1 (by simp))
    clear k1
    go_wp2
    go_end0
    exact ⟨rfl, unhide K1⟩
  · go_enter Try.func10, Try.ntmps10
    go_wp2_with fail
    refine (wraw_nil _ _ _ _).mono ?_
    rintro e w1 ⟨rfl, k1⟩
    have K1 := hide (((Kept.refl [] w).alloc _).trans k1 (by simp))
    clear k1
    go_wp2
    go_end0
    exact ⟨rfl, unhide K1⟩
  · go_enter Try.func10, Try.ntmps10
    go_wp2_with fail
    refine (wblob_nil _ _ _ _ hm).mono ?_
    rintro e w1 ⟨rfl, k1⟩
    have K1 := hide (((Kept.refl [] w).alloc _).trans k1 (by simp))
    clear k1
    go_wp2
    go_end0
    exact ⟨rfl, unhide K1⟩
  · go_enter Try.func10, Try.ntmps10
    go_wp2
    go_end0
    exact ⟨rfl, (Kept.refl [] w).alloc _⟩

set_option maxRecDepth 100000 in
set_option maxHeartbeats 4000000 in
theorem take_nil (k : Int) (x : Nat) (n : Int) (pv : Value) (w : World) :
    Calls Try.prog 19 #[.pointer none, opV k x n pv] w fun e w' => e = .returned (.tuple #[.int .u64 0, .slice none 0 0]) ∧ Kept [] w w' := by
  rcases kinds7 k with rfl | rfl | rfl | rfl | rfl | rfl | rfl | ⟨h1, h2, h3, h4, h5, h6, h7⟩
  · go_enter Try.func19, Try.ntmps19
    go_wp2_with fail
    refine (ru8_nil _).mono ?_
    rintro e w1 ⟨rfl, k1⟩
    have K1 := hide (((Kept.refl [] w).alloc _).trans k1 (by simp))
    clear k1
    go_wp2
    go_ret2
    exact ⟨rfl, unhide K1⟩
  · go_enter Try.func19, Try.ntmps19
    go_wp2_with fail
    refine (ru16_nil _).mono ?_
    rintro e w1 ⟨rfl, k1⟩
    have K1 := hide (((Kept.refl [] w).alloc _).trans k1 (by simp))
    clear k1
    go_wp2
    go_ret2
    exact ⟨rfl, unhide K1⟩
  · go_enter Try.func19, Try.ntmps19
    go_wp2_with fail
    refine (ru32_nil _).mono ?_
    rintro e w1 ⟨rfl, k1⟩
    have K1 := hide (((Kept.refl [] w).alloc _).trans k1 (by simp))
    clear k1
    go_wp2
    go_ret2
    exact ⟨rfl, unhide K1⟩
  · go_enter Try.func19, Try.ntmps19
    go_wp2_with fail
    refine (ru64_nil _).mono ?_
    rintro e w1 ⟨rfl, k1⟩
    have K1 := hide (((Kept.refl [] w).alloc _).trans k1 (by simp))
    clear k1
    go_wp2
    go_ret2
    exact ⟨rfl, unhide K1⟩
  · go_enter Try.func19, Try.ntmps19
    go_wp2_with fail
    refine (ruvar_nil _).mono ?_
    rintro e w1 ⟨rfl, k1⟩
    have K1 := hide (((Kept.refl [] w).alloc _).trans k1 (by simp))
    clear k1
    go_wp2
    go_ret2
    exact ⟨rfl, unhide K1⟩
  · go_enter Try.func19, Try.ntmps19
    go_wp2_with fail
    refine (rraw_nil _ _).mono ?_
    rintro e w1 ⟨rfl, k1⟩
    have K1 := hide (((Kept.refl [] w).alloc _).trans k1 (by simp))
    clear k1
    go_wp2
    go_ret2
    exact ⟨rfl, unhide K1⟩
  · go_enter Try.func19, Try.ntmps19
    go_wp2_with fail
    refine (rblob_nil _ _).mono ?_
    rintro e w1 ⟨rfl, k1⟩
    have K1 := hide (((Kept.refl [] w).alloc _).trans k1 (by simp))
    clear k1
    go_wp2
    go_ret2
    exact ⟨rfl, unhide K1⟩
  · go_enter Try.func19, Try.ntmps19
    go_wp2
    go_ret2
    exact ⟨rfl, (Kept.refl [] w).alloc _⟩

end Go.Proofs.Ytdnacefdihipnaa
