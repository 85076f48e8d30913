import Derived.Test.YtdnacefdihipnadWAll
namespace Go.Proofs.Ytdnacefdihipnad
open Go.RowKit
set_option linter.unusedVariables false
set_option linter.unusedSimpArgs false

set_option maxRecDepth 100000 in
theorem wu8_any (b : Nat) (v : Value) (bs : List Nat) (x : Nat) (w : World) (hw : WrAt w b v bs) (hx : x < 256) (hl : bs.length + 8 ≤ 140737488355328) :
    Calls Try.prog 16 #[.pointer (some ⟨b, 0, none⟩), .int .u8 x] w fun e w' => e = .returned (.tuple #[]) ∧ ∃ v', WrAt w' b v' (bs ++ wide x 1) ∧ Grew b v v' w w' := by
  have HW := hide hw
  clear hw
  go_enter Try.func16, Try.ntmps16
  go_wp2_with (go_at_call 14; go_must (refine (wnumber_any b v bs x 1 _ (unhide HW) (by omega) hl).mono ?_; rintro e w1 ⟨rfl, hk⟩; have HK := hide hk; clear hk))
  go_end0
  exact ⟨rfl, unhide HK⟩
set_option maxRecDepth 100000 in
theorem wu32_any (b : Nat) (v : Value) (bs : List Nat) (x : Nat) (w : World) (hw : WrAt w b v bs) (hx : x < 4294967296) (hl : bs.length + 8 ≤ 140737488355328) :
    Calls Try.prog 17 #[.pointer (some ⟨b, 0, none⟩), .int .u32 x] w fun e w' => e = .returned (.tuple #[]) ∧ ∃ v', WrAt w' b v' (bs ++ wide x 4) ∧ Grew b v v' w w' := by
  have HW := hide hw
  clear hw
  go_enter Try.func17, Try.ntmps17
  go_wp2_with (go_at_call 14; go_must (refine (wnumber_any b v bs x 4 _ (unhide HW) (by omega) hl).mono ?_; rintro e w1 ⟨rfl, hk⟩; have HK := hide hk; clear hk))
  go_end0
  exact ⟨rfl, unhide HK⟩
set_option maxRecDepth 100000 in
theorem wu64_any (b : Nat) (v : Value) (bs : List Nat) (x : Nat) (w : World) (hw : WrAt w b v bs) (hl : bs.length + 8 ≤ 140737488355328) :
    Calls Try.prog 18 #[.pointer (some ⟨b, 0, none⟩), .int .u64 x] w fun e w' => e = .returned (.tuple #[]) ∧ ∃ v', WrAt w' b v' (bs ++ wide x 8) ∧ Grew b v v' w w' := by
  have HW := hide hw
  clear hw
  go_enter Try.func18, Try.ntmps18
  go_wp2_with (go_at_call 14; go_must (refine (wnumber_any b v bs x 8 _ (unhide HW) (by omega) hl).mono ?_; rintro e w1 ⟨rfl, hk⟩; have HK := hide hk; clear hk))
  go_end0
  exact ⟨rfl, unhide HK⟩

/-- What the law's 'width' answers. -/
def widthN (k : Int) : Nat := if k = 1 then 1 else if k = 2 then 2 else if k = 3 then 4 else if k = 4 then 8 else 0

theorem kinds4 (k : Int) : k = 1 ∨ k = 2 ∨ k = 3 ∨ k = 4 ∨ (k ≠ 1 ∧ k ≠ 2 ∧ k ≠ 3 ∧ k ≠ 4) := by omega

/-- The law's 'cut': V as a number of the kind. -/
def cutN (k : Int) (v : Nat) : Nat := if k = 1 then v % 256 else if k = 2 then v % 65536 else if k = 3 then v % 4294967296 else v

/-- An Op as a value. -/
abbrev opV (k : Int) (v : Nat) (n : Int) (pv : Value) : Value := .agg #[.int .i64 k, .int .u64 v, .int .i64 n, pv]

/-- The bytes that the law's 'lay' lays. -/
def layB (k : Int) (x : Nat) (p : List Nat) : List Nat :=
  if k = 1 then wide (x % 256) 1 else if k = 2 then wide (x % 65536) 2 else if k = 3 then wide (x % 4294967296) 4 else if k = 4 then wide x 8 else if k = 5 then uv x else if k = 6 then p else if k = 7 then uv p.length ++ p else []

theorem kinds7 (k : Int) : k = 1 ∨ k = 2 ∨ k = 3 ∨ k = 4 ∨ k = 5 ∨ k = 6 ∨ k = 7 ∨ (k ≠ 1 ∧ k ≠ 2 ∧ k ≠ 3 ∧ k ≠ 4 ∧ k ≠ 5 ∧ k ≠ 6 ∧ k ≠ 7) := by omega

end Go.Proofs.Ytdnacefdihipnad
