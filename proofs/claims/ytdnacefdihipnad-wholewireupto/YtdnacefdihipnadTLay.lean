import Derived.Test.YtdnacefdihipnadTake
namespace Go.Proofs.Ytdnacefdihipnad
open Go.RowKit
set_option linter.unusedVariables false
set_option linter.unusedSimpArgs false

abbrev tV (k : Int) (x : Nat) (pv : Value) : Value := .agg #[.int .u8 k, .int .u64 x, pv]
/-- The kind of an Op that a Thing's kind is. -/
def kk (k : Int) : Int := if k = 0 then 1 else if k = 1 then 2 else if k = 2 then 3 else if k = 3 then 4 else if k = 4 then 5 else if k = 5 then 6 else 7
theorem kk_in (k : Int) : 1 ≤ kk k ∧ kk k ≤ 7 := by unfold kk; repeat' split
                                                    all_goals omega
theorem kinds6 (k : Int) : k = 0 ∨ k = 1 ∨ k = 2 ∨ k = 3 ∨ k = 4 ∨ k = 5 ∨ (k ≠ 0 ∧ k ≠ 1 ∧ k ≠ 2 ∧ k ≠ 3 ∧ k ≠ 4 ∧ k ≠ 5) := by omega

set_option maxRecDepth 100000 in
set_option maxHeartbeats 2000000 in
theorem tlay_any (b : Nat) (v : Value) (bs : List Nat) (k : Int) (x : Nat) (pv : Value) (p : List Nat) (w : World) (hw : WrAt w b v bs) (hr : ∀ w', Kept (b :: v.ownBlock.toList) w w' → Rd w' pv p)
    (hx : x < 18446744073709551616) (hl : bs.length + 20 + p.length ≤ 140737488355328) :
    Calls Try.prog 6 #[.pointer (some ⟨b, 0, none⟩), tV k x pv] w fun e w' => e = .returned (.tuple #[]) ∧ ∃ v', WrAt w' b v' (bs ++ layB (kk k) x p) ∧ Grew b v v' w w' := by
  have HW := hide (hw.alloc (.cells #[.int .u8 k, .int .u64 x, pv] 33))
  have HR : Hid (∀ w', Kept (b :: v.ownBlock.toList) (w.alloc (.cells #[.int .u8 k, .int .u64 x, pv] 33)) w' → Rd w' pv p) := fun w' k => hr w' (((Kept.refl _ w).alloc _).trans k (fun y h => .inl h))
  have hx' : (x : Int) ≤ 18446744073709551615 := by omega
  clear hw hr
  rcases kinds6 k with rfl | rfl | rfl | rfl | rfl | rfl | ⟨h0, h1, h2, h3, h4, h5⟩
  · have hs : layB (kk 0) x p = wide (x % 256) 1 := rfl
    have Hs := hide hs
    clear hs 
    go_enter Try.func6, Try.ntmps6
    go_wp2_with fail
    rw [show ((x : Int) % 256) = ((x % 256 : Nat) : Int) from by omega]
    refine (wu8_any b v bs (x % 256) _ (unhide HW) (by omega) (by omega)).mono ?_
    rintro e w1 ⟨rfl, v1, h1, k1⟩
    rw [← unhide Hs] at h1
    have HW1 := hide h1
    have HG1 := hide (((Grew.refl b v w).alloc _).trans k1)
    clear h1 k1
    go_wp2
    go_end0
    exact ⟨rfl, v1, unhide HW1, unhide HG1⟩
  · have hs : layB (kk 1) x p = wide (x % 65536) 2 := rfl
    have Hs := hide hs
    clear hs 
    go_enter Try.func6, Try.ntmps6
    go_wp2_with fail
    rw [show IntKind.u16.wrap (x : Int) = ((x % 65536 : Nat) : Int) from by rw [IntKind.wrap_u16]; omega]
    refine (wu16_any b v bs (x % 65536) _ (unhide HW) (by omega) (by omega)).mono ?_
    rintro e w1 ⟨rfl, v1, h1, k1⟩
    rw [← unhide Hs] at h1
    have HW1 := hide h1
    have HG1 := hide (((Grew.refl b v w).alloc _).trans k1)
    clear h1 k1
    go_wp2
    go_end0
    exact ⟨rfl, v1, unhide HW1, unhide HG1⟩
  · have hs : layB (kk 2) x p = wide (x % 4294967296) 4 := rfl
    have Hs := hide hs
    clear hs 
    go_enter Try.func6, Try.ntmps6
    go_wp2_with fail
    rw [show ((x : Int) % 4294967296) = ((x % 4294967296 : Nat) : Int) from by omega]
    refine (wu32_any b v bs (x % 4294967296) _ (unhide HW) (by omega) (by omega)).mono ?_
    rintro e w1 ⟨rfl, v1, h1, k1⟩
    rw [← unhide Hs] at h1
    have HW1 := hide h1
    have HG1 := hide (((Grew.refl b v w).alloc _).trans k1)
    clear h1 k1
    go_wp2
    go_end0
    exact ⟨rfl, v1, unhide HW1, unhide HG1⟩
  · have hs : layB (kk 3) x p = wide x 8 := rfl
    have Hs := hide hs
    clear hs 
    go_enter Try.func6, Try.ntmps6
    go_wp2_with fail
    refine (wu64_any b v bs x _ (unhide HW) (by omega)).mono ?_
    rintro e w1 ⟨rfl, v1, h1, k1⟩
    rw [← unhide Hs] at h1
    have HW1 := hide h1
    have HG1 := hide (((Grew.refl b v w).alloc _).trans k1)
    clear h1 k1
    go_wp2
    go_end0
    exact ⟨rfl, v1, unhide HW1, unhide HG1⟩
  · have hs : layB (kk 4) x p = uv x := rfl
    have Hs := hide hs
    clear hs 
    go_enter Try.func6, Try.ntmps6
    go_wp2_with fail
    refine (wuvar_any b v bs x _ (unhide HW) hx (by omega)).mono ?_
    rintro e w1 ⟨rfl, v1, h1, k1⟩
    rw [← unhide Hs] at h1
    have HW1 := hide h1
    have HG1 := hide (((Grew.refl b v w).alloc _).trans k1)
    clear h1 k1
    go_wp2
    go_end0
    exact ⟨rfl, v1, unhide HW1, unhide HG1⟩
  · have hs : layB (kk 5) x p = p := rfl
    have Hs := hide hs
    clear hs 
    go_enter Try.func6, Try.ntmps6
    go_wp2_with fail
    refine (wraw_any b v pv bs p _ (unhide HW) (unhide HR _ (Kept.refl _ _)) (by omega)).mono ?_
    rintro e w1 ⟨rfl, v1, h1, k1⟩
    rw [← unhide Hs] at h1
    have HW1 := hide h1
    have HG1 := hide (((Grew.refl b v w).alloc _).trans k1)
    clear h1 k1
    go_wp2
    go_end0
    exact ⟨rfl, v1, unhide HW1, unhide HG1⟩
  · have t0 : (k == 0) = false := by simp [h0]
    have t1 : (k == 1) = false := by simp [h1]
    have t2 : (k == 2) = false := by simp [h2]
    have t3 : (k == 3) = false := by simp [h3]
    have t4 : (k == 4) = false := by simp [h4]
    have t5 : (k == 5) = false := by simp [h5]
    have hs : layB (kk k) x p = uv p.length ++ p := by simp [kk, h0, h1, h2, h3, h4, h5, layB]
    have Hs := hide hs
    clear hs h0 h1 h2 h3 h4 h5
    go_enter Try.func6, Try.ntmps6
    go_wp2_with fail
    refine (wblob_any b v pv bs p _ (unhide HW) (unhide HR) (by omega)).mono ?_
    rintro e w1 ⟨rfl, v1, h1, k1⟩
    rw [← unhide Hs] at h1
    have HW1 := hide h1
    have HG1 := hide (((Grew.refl b v w).alloc _).trans k1)
    clear h1 k1
    go_wp2
    go_end0
    exact ⟨rfl, v1, unhide HW1, unhide HG1⟩

end Go.Proofs.Ytdnacefdihipnad
