import Derived.Test.YtdnacefdihipnadRBlob
import Derived.Test.YtdnacefdihipnadLay
namespace Go.Proofs.Ytdnacefdihipnad
open Go.RowKit
set_option linter.unusedVariables false
set_option linter.unusedSimpArgs false

set_option maxRecDepth 100000 in
set_option maxHeartbeats 1000000 in
theorem ru16_any (b : Nat) (gv : Value) (p : List Nat) (i e : Nat) (w : World) (h : ReAt w b gv p i e) :
    Calls Try.prog 9 #[.pointer (some ⟨b, 0, none⟩)] w fun r w' => r = .returned (.int .u16 ((rNum p i e 2).1 % 65536 : Nat)) ∧ ReAt w' b gv p (rNum p i e 2).2.1 (rNum p i e 2).2.2 ∧ Kept [b] w w' := by
  have HR := hide h
  have hlt := ru_lt p i e 2
  obtain ⟨x, hx⟩ : ∃ x, (rNum p i e 2).1 = x := ⟨_, rfl⟩
  rw [hx] at hlt ⊢
  have Hx := hide hx
  clear h hx
  have hwr : IntKind.u16.wrap (x : Int) = ((x % 65536 : Nat) : Int) := by simp [IntKind.wrap, IntKind.bits, IntKind.signed]
  have Hwr := hide hwr
  clear hwr
  go_enter Try.func9, Try.ntmps9
  go_wp2_with (go_at_call 22; go_must (refine (rnum_any b gv p i e 2 _ (unhide HR) (by omega)).mono ?_; rintro r w1 ⟨rfl, h1, h2⟩; rw [unhide Hx]; have H1 := hide h1; have H2 := hide h2; clear h1 h2))
  go_ret
  exact ⟨by first | (simp; done) | (rw [← unhide Hwr]; rfl), unhide H1, unhide H2⟩

set_option maxRecDepth 100000 in
set_option maxHeartbeats 1000000 in
theorem ru32_any (b : Nat) (gv : Value) (p : List Nat) (i e : Nat) (w : World) (h : ReAt w b gv p i e) :
    Calls Try.prog 24 #[.pointer (some ⟨b, 0, none⟩)] w fun r w' => r = .returned (.int .u32 ((rNum p i e 4).1 % 4294967296 : Nat)) ∧ ReAt w' b gv p (rNum p i e 4).2.1 (rNum p i e 4).2.2 ∧ Kept [b] w w' := by
  have HR := hide h
  have hlt := ru_lt p i e 4
  obtain ⟨x, hx⟩ : ∃ x, (rNum p i e 4).1 = x := ⟨_, rfl⟩
  rw [hx] at hlt ⊢
  have Hx := hide hx
  clear h hx
  have hwr : IntKind.u32.wrap (x : Int) = ((x % 4294967296 : Nat) : Int) := by simp [IntKind.wrap, IntKind.bits, IntKind.signed]
  have Hwr := hide hwr
  clear hwr
  go_enter Try.func24, Try.ntmps24
  go_wp2_with (go_at_call 22; go_must (refine (rnum_any b gv p i e 4 _ (unhide HR) (by omega)).mono ?_; rintro r w1 ⟨rfl, h1, h2⟩; rw [unhide Hx]; have H1 := hide h1; have H2 := hide h2; clear h1 h2))
  go_ret
  exact ⟨by first | (simp; done) | (rw [← unhide Hwr]; rfl), unhide H1, unhide H2⟩

set_option maxRecDepth 100000 in
set_option maxHeartbeats 1000000 in
theorem ru64_any (b : Nat) (gv : Value) (p : List Nat) (i e : Nat) (w : World) (h : ReAt w b gv p i e) :
    Calls Try.prog 25 #[.pointer (some ⟨b, 0, none⟩)] w fun r w' => r = .returned (.int .u64 (rNum p i e 8).1) ∧ ReAt w' b gv p (rNum p i e 8).2.1 (rNum p i e 8).2.2 ∧ Kept [b] w w' := by
  have HR := hide h
  clear h
  go_enter Try.func25, Try.ntmps25
  go_wp2_with (go_at_call 22; go_must (refine (rnum_any b gv p i e 8 _ (unhide HR) (by omega)).mono ?_; rintro r w1 ⟨rfl, h1, h2⟩; have H1 := hide h1; have H2 := hide h2; clear h1 h2))
  go_ret
  exact ⟨rfl, unhide H1, unhide H2⟩

/-- What the law's 'take' answers: a number, bytes; the place and the fault behind it. -/
def rTake (p : List Nat) (i e : Nat) (k n : Int) : Nat × List Nat × Nat × Nat :=
  if k = 1 then ((rNum p i e 1).1 % 256, [], (rNum p i e 1).2) else if k = 2 then ((rNum p i e 2).1 % 65536, [], (rNum p i e 2).2) else if k = 3 then ((rNum p i e 4).1 % 4294967296, [], (rNum p i e 4).2)
  else if k = 4 then ((rNum p i e 8).1, [], (rNum p i e 8).2) else if k = 5 then ((rUvar p i e).1, [], (rUvar p i e).2) else if k = 6 then (0, rRaw p i e n) else if k = 7 then (0, rBlob p i e n) else (0, [], i, e)

end Go.Proofs.Ytdnacefdihipnad
