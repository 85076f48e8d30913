import Derived.Test.YtbbjbpjpejekgaaWAll
namespace Go.Proofs.Ytbbjbpjpejekgaa
open Go.RowKit
set_option linter.unusedVariables false
set_option linter.unusedSimpArgs false

set_option maxRecDepth 100000 in
theorem wu8_any (b : Nat) (v : Value) (bs : List Nat) (x : Nat) (w : World) (hw : WrAt w b v bs) (hx : x < 256) (hl : bs.length + 8 ≤ 140737488355328) :
    Calls Try.prog 41 #[.pointer (some ⟨b, 0, none⟩), .int .u8 x] w fun e w' => e = .returned (.tuple #[]) ∧ ∃ v', WrAt w' b v' (bs ++ wide x 1) ∧ Grew b v v' w w' := by
  have HW := hide hw
  clear hw
  go_enter Try.func41, Try.ntmps41
  go_wp2_with (go_at_call 30; go_must (refine (wnumber_any b v bs x 1 _ (unhide HW) (by omega) hl).mono ?_; rintro e w1 ⟨rfl, hk⟩; have HK := hide hk; clear hk))
  go_end0
  exact ⟨rfl, unhide HK⟩
set_option maxRecDepth 100000 in
theorem wu32_any (b : Nat) (v : Value) (bs : List Nat) (x : Nat) (w : World) (hw : WrAt w b v bs) (hx : x < 4294967296) (hl : bs.length + 8 ≤ 140737488355328) :
    Calls Try.prog 42 #[.pointer (some ⟨b, 0, none⟩), .int .u32 x] w fun e w' => e = .returned (.tuple #[]) ∧ ∃ v', WrAt w' b v' (bs ++ wide x 4) ∧ Grew b v v' w w' := by
  have HW := hide hw
  clear hw
  go_enter Try.func42, Try.ntmps42
  go_wp2_with (go_at_call 30; go_must (refine (wnumber_any b v bs x 4 _ (unhide HW) (by omega) hl).mono ?_; rintro e w1 ⟨rfl, hk⟩; have HK := hide hk; clear hk))
  go_end0
  exact ⟨rfl, unhide HK⟩
set_option maxRecDepth 100000 in
theorem wu64_any (b : Nat) (v : Value) (bs : List Nat) (x : Nat) (w : World) (hw : WrAt w b v bs) (hl : bs.length + 8 ≤ 140737488355328) :
    Calls Try.prog 43 #[.pointer (some ⟨b, 0, none⟩), .int .u64 x] w fun e w' => e = .returned (.tuple #[]) ∧ ∃ v', WrAt w' b v' (bs ++ wide x 8) ∧ Grew b v v' w w' := by
  have HW := hide hw
  clear hw
  go_enter Try.func43, Try.ntmps43
  go_wp2_with (go_at_call 30; go_must (refine (wnumber_any b v bs x 8 _ (unhide HW) (by omega) hl).mono ?_; rintro e w1 ⟨rfl, hk⟩; have HK := hide hk; clear hk))
  go_end0
  exact ⟨rfl, unhide HK⟩

/-- What the law's 'width' answers. -/
def widthN (k : Int) : Nat := if k = 1 then 1 else if k = 2 then 2 else if k = 3 then 4 else if k = 4 then 8 else 0

theorem kinds4 (k : Int) : k = 1 ∨ k = 2 ∨ k = 3 ∨ k = 4 ∨ (k ≠ 1 ∧ k ≠ 2 ∧ k ≠ 3 ∧ k ≠ 4) := by omega

set_option maxRecDepth 100000 in
theorem width_any (k : Int) (w : World) : Calls Try.prog 35 #[.int .i64 k] w fun e w' => e = .returned (.int .i64 (widthN k)) ∧ w' = w := by
  rcases kinds4 k with rfl | rfl | rfl | rfl | ⟨h1, h2, h3, h4⟩
  · go_enter Try.func35, Try.ntmps35
    go_wp2
    go_ret
    exact ⟨rfl, rfl⟩
  · go_enter Try.func35, Try.ntmps35
    go_wp2
    go_ret
    exact ⟨rfl, rfl⟩
  · go_enter Try.func35, Try.ntmps35
    go_wp2
    go_ret
    exact ⟨rfl, rfl⟩
  · go_enter Try.func35, Try.ntmps35
    go_wp2
    go_ret
    exact ⟨rfl, rfl⟩
  · have t1 : (k == 1) = false := by simp [h1]
    have t2 : (k == 2) = false := by simp [h2]
    have t3 : (k == 3) = false := by simp [h3]
    have t4 : (k == 4) = false := by simp [h4]
    have Hf := hide (by simp [widthN, h1, h2, h3, h4] : widthN k = 0)
    clear h1 h2 h3 h4
    go_enter Try.func35, Try.ntmps35
    go_wp2
    go_ret
    exact ⟨by rw [unhide Hf]; rfl, rfl⟩

/-- The law's 'cut': V as a number of the kind. -/
def cutN (k : Int) (v : Nat) : Nat := if k = 1 then v % 256 else if k = 2 then v % 65536 else if k = 3 then v % 4294967296 else v

/-- An Op as a value. -/
abbrev opV (k : Int) (v : Nat) (n : Int) (pv : Value) : Value := .agg #[.int .i64 k, .int .u64 v, .int .i64 n, pv]

set_option maxRecDepth 100000 in
theorem cut_any (k : Int) (v : Nat) (n : Int) (pv : Value) (w : World) (hv : v < 18446744073709551616) :
    Calls Try.prog 37 #[opV k v n pv] w fun e w' => e = .returned (.int .u64 (cutN k v)) ∧ Kept [] w w' := by
  have hv' : (v : Int) ≤ 18446744073709551615 := by omega
  rcases kinds4 k with rfl | rfl | rfl | rfl | ⟨h1, h2, h3, h4⟩
  · go_enter Try.func37, Try.ntmps37
    go_wp2
    go_ret
    exact ⟨by simp [cutN], (Kept.refl [] w).alloc _⟩
  · go_enter Try.func37, Try.ntmps37
    go_wp2
    go_ret
    exact ⟨by simp [cutN], (Kept.refl [] w).alloc _⟩
  · go_enter Try.func37, Try.ntmps37
    go_wp2
    go_ret
    exact ⟨by simp [cutN], (Kept.refl [] w).alloc _⟩
  · go_enter Try.func37, Try.ntmps37
    go_wp2
    go_ret
    exact ⟨by simp [cutN], (Kept.refl [] w).alloc _⟩
  · have t1 : (k == 1) = false := by simp [h1]
    have t2 : (k == 2) = false := by simp [h2]
    have t3 : (k == 3) = false := by simp [h3]
    have Hf := hide (by simp [cutN, h1, h2, h3] : cutN k v = v)
    clear h1 h2 h3 h4
    go_enter Try.func37, Try.ntmps37
    go_wp2
    go_ret
    exact ⟨by rw [unhide Hf]; rfl, (Kept.refl [] w).alloc _⟩

/-- The bytes that the law's 'lay' lays. -/
def layB (k : Int) (x : Nat) (p : List Nat) : List Nat :=
  if k = 1 then wide (x % 256) 1 else if k = 2 then wide (x % 65536) 2 else if k = 3 then wide (x % 4294967296) 4 else if k = 4 then wide x 8 else if k = 5 then uv x else if k = 6 then p else if k = 7 then uv p.length ++ p else []

theorem kinds7 (k : Int) : k = 1 ∨ k = 2 ∨ k = 3 ∨ k = 4 ∨ k = 5 ∨ k = 6 ∨ k = 7 ∨ (k ≠ 1 ∧ k ≠ 2 ∧ k ≠ 3 ∧ k ≠ 4 ∧ k ≠ 5 ∧ k ≠ 6 ∧ k ≠ 7) := by omega

set_option maxRecDepth 100000 in
set_option maxHeartbeats 2000000 in
theorem lay_any (b : Nat) (v : Value) (bs : List Nat) (k : Int) (x : Nat) (n : Int) (pv : Value) (p : List Nat) (w : World) (hw : WrAt w b v bs) (hr : ∀ w', Kept (b :: v.ownBlock.toList) w w' → Rd w' pv p)
    (hx : x < 18446744073709551616) (hl : bs.length + 20 + p.length ≤ 140737488355328) :
    Calls Try.prog 20 #[.pointer (some ⟨b, 0, none⟩), opV k x n pv] w fun e w' => e = .returned (.tuple #[]) ∧ ∃ v', WrAt w' b v' (bs ++ layB k x p) ∧ Grew b v v' w w' := by
  have HW := hide (hw.alloc (.cells #[.int .i64 k, .int .u64 x, .int .i64 n, pv] 44))
  have HR : Hid (∀ w', Kept (b :: v.ownBlock.toList) (w.alloc (.cells #[.int .i64 k, .int .u64 x, .int .i64 n, pv] 44)) w' → Rd w' pv p) := fun w' k => hr w' (((Kept.refl _ w).alloc _).trans k (fun y h => .inl h))
  have hx' : (x : Int) ≤ 18446744073709551615 := by omega
  clear hw hr
  rcases kinds7 k with rfl | rfl | rfl | rfl | rfl | rfl | rfl | ⟨h1, h2, h3, h4, h5, h6, h7⟩
  · have hs : layB 1 x p = wide (x % 256) 1 := rfl
    have Hs := hide hs
    clear hs
    go_enter Try.func20, Try.ntmps20
    go_wp2_with fail
    rw [show ((x : Int) % 256) = ((x % 256 : Nat) : Int) from by omega]
    refine (wu8_any b v bs (x % 256) _ (unhide HW) (by omega) (by omega)).mono ?_
    rintro e w1 ⟨rfl, v1, h1, k1⟩
    rw [← unhide Hs] at h1
    have HW1 := hide h1
    have HG1 := hide (((Grew.refl b v w).alloc _).trans k1)
    clear h1 k1
    go_wp2
    go_end0
    exact ⟨rfl, v1, unhide HW1, unhide HG1⟩
  · have hs : layB 2 x p = wide (x % 65536) 2 := rfl
    have Hs := hide hs
    clear hs
    go_enter Try.func20, Try.ntmps20
    go_wp2_with fail
    rw [show IntKind.u16.wrap (x : Int) = ((x % 65536 : Nat) : Int) from by rw [IntKind.wrap_u16]; omega]
    refine (wu16_any b v bs (x % 65536) _ (unhide HW) (by omega) (by omega)).mono ?_
    rintro e w1 ⟨rfl, v1, h1, k1⟩
    rw [← unhide Hs] at h1
    have HW1 := hide h1
    have HG1 := hide (((Grew.refl b v w).alloc _).trans k1)
    clear h1 k1
    go_wp2
    go_end0
    exact ⟨rfl, v1, unhide HW1, unhide HG1⟩
  · have hs : layB 3 x p = wide (x % 4294967296) 4 := rfl
    have Hs := hide hs
    clear hs
    go_enter Try.func20, Try.ntmps20
    go_wp2_with fail
    rw [show ((x : Int) % 4294967296) = ((x % 4294967296 : Nat) : Int) from by omega]
    refine (wu32_any b v bs (x % 4294967296) _ (unhide HW) (by omega) (by omega)).mono ?_
    rintro e w1 ⟨rfl, v1, h1, k1⟩
    rw [← unhide Hs] at h1
    have HW1 := hide h1
    have HG1 := hide (((Grew.refl b v w).alloc _).trans k1)
    clear h1 k1
    go_wp2
    go_end0
    exact ⟨rfl, v1, unhide HW1, unhide HG1⟩
  · have hs : layB 4 x p = wide x 8 := rfl
    have Hs := hide hs
    clear hs
    go_enter Try.func20, Try.ntmps20
    go_wp2_with fail
    refine (wu64_any b v bs x _ (unhide HW) (by omega)).mono ?_
    rintro e w1 ⟨rfl, v1, h1, k1⟩
    rw [← unhide Hs] at h1
    have HW1 := hide h1
    have HG1 := hide (((Grew.refl b v w).alloc _).trans k1)
    clear h1 k1
    go_wp2
    go_end0
    exact ⟨rfl, v1, unhide HW1, unhide HG1⟩
  · have hs : layB 5 x p = uv x := rfl
    have Hs := hide hs
    clear hs
    go_enter Try.func20, Try.ntmps20
    go_wp2_with fail
    refine (wuvar_any b v bs x _ (unhide HW) hx (by omega)).mono ?_
    rintro e w1 ⟨rfl, v1, h1, k1⟩
    rw [← unhide Hs] at h1
    have HW1 := hide h1
    have HG1 := hide (((Grew.refl b v w).alloc _).trans k1)
    clear h1 k1
    go_wp2
    go_end0
    exact ⟨rfl, v1, unhide HW1, unhide HG1⟩
  · have hs : layB 6 x p = p := rfl
    have Hs := hide hs
    clear hs
    go_enter Try.func20, Try.ntmps20
    go_wp2_with fail
    refine (wraw_any b v pv bs p _ (unhide HW) (unhide HR _ (Kept.refl _ _)) (by omega)).mono ?_
    rintro e w1 ⟨rfl, v1, h1, k1⟩
    rw [← unhide Hs] at h1
    have HW1 := hide h1
    have HG1 := hide (((Grew.refl b v w).alloc _).trans k1)
    clear h1 k1
    go_wp2
    go_end0
    exact ⟨rfl, v1, unhide HW1, unhide HG1⟩
  · have hs : layB 7 x p = uv p.length ++ p := rfl
    have Hs := hide hs
    clear hs
    go_enter Try.func20, Try.ntmps20
    go_wp2_with fail
    refine (wblob_any b v pv bs p _ (unhide HW) (unhide HR) (by omega)).mono ?_
    rintro e w1 ⟨rfl, v1, h1, k1⟩
    rw [← unhide Hs] at h1
    have HW1 := hide h1
    have HG1 := hide (((Grew.refl b v w).alloc _).trans k1)
    clear h1 k1
    go_wp2
    go_end0
    exact ⟨rfl, v1, unhide HW1, unhide HG1⟩
  · have t1 : (k == 1) = false := by simp [h1]
    have t2 : (k == 2) = false := by simp [h2]
    have t3 : (k == 3) = false := by simp [h3]
    have t4 : (k == 4) = false := by simp [h4]
    have t5 : (k == 5) = false := by simp [h5]
    have t6 : (k == 6) = false := by simp [h6]
    have t7 : (k == 7) = false := by simp [h7]
    have Hf := hide (by simp [layB, h1, h2, h3, h4, h5, h6, h7] : layB k x p = [])
    clear h1 h2 h3 h4 h5 h6 h7
    go_enter Try.func20, Try.ntmps20
    go_wp2
    go_end0
    exact ⟨rfl, v, by rw [unhide Hf, List.append_nil]; exact unhide HW, (Grew.refl b v w).alloc _⟩
end Go.Proofs.Ytbbjbpjpejekgaa
