import Derived.Test.YtjafmnemobcipaaDoorNSet
namespace Go.Proofs.YtjafmnemobcipaaDoor
open Go.RowKit Go.BigFrame
set_option linter.unusedVariables false
set_option linter.unusedSimpArgs false

set_option maxRecDepth 100000 in
set_option maxHeartbeats 1000000 in
theorem has_any (b : Nat) (i : Int) (w : World) (hb : b < 65536) (hi : -9223372036854775808 ≤ i ∧ i ≤ 9223372036854775807) :
    Calls Tryd.prog 62 #[.int .u16 b, .int .i64 i] w fun e w' => e = .returned (.bool (hasB b i)) ∧ Kept [] w w' := by
  have hl := al_lt i
  have HE := hide (and_al_int b i)
  have e1 := u16_and_nat b (al i) hb hl
  go_enter Tryd.func62, Tryd.ntmps62
  go_wp2_with fail
  refine Calls.mono (alone_any i _ hi) ?_
  rintro e w1 ⟨rfl, rfl⟩
  generalize al i = A at *
  go_wp2
  go_ret
  have e2 : (((b &&& A : Nat) : Int) != 0) = (b &&& A != 0) := by cases h : (b &&& A != 0) <;> simp at h ⊢ <;> omega
  exact ⟨by rw [← unhide HE, ← e2]; rfl, Kept.refl _ _⟩

set_option maxRecDepth 100000 in
set_option maxHeartbeats 1000000 in
theorem rank_any (b : Nat) (i : Int) (w : World) (hb : b < 65536) (hi : -9223372036854775808 ≤ i ∧ i ≤ 9223372036854775807) :
    Calls Tryd.prog 22 #[.int .u16 b, .int .i64 i] w fun e w' => e = .returned (.int .i64 (rankB b i : Int)) ∧ Kept [] w w' := by
  by_cases h0 : i < 0
  · have HE := hide (by unfold rankB; rw [if_pos h0] : rankB b i = 0)
    go_enter Tryd.func22, Tryd.ntmps22
    go_wp2
    go_ret
    exact ⟨by rw [unhide HE]; rfl, Kept.refl _ _⟩
  · have hl := al_lt i
    have HE := hide (rank_al b i hb (by omega))
    have hm : (al i + 65535) % 65536 < 65536 := Nat.mod_lt _ (by decide)
    have e1 := u16_and_nat b ((al i + 65535) % 65536) hb hm
    have e2 : IntKind.u16.wrap ((al i : Int) - 1) = (((al i + 65535) % 65536 : Nat) : Int) := by
      simp [IntKind.wrap, IntKind.signed, IntKind.bits]; omega
    have e3 : (((al i : Int) - 1) % 65536) = (((al i + 65535) % 65536 : Nat) : Int) := by omega
    have hn : b &&& ((al i + 65535) % 65536) < 65536 := Nat.lt_of_le_of_lt Nat.and_le_left hb
    go_enter Tryd.func22, Tryd.ntmps22
    go_wp2_with fail
    refine Calls.mono (alone_any i _ hi) ?_
    rintro e w1 ⟨rfl, rfl⟩
    generalize (al i + 65535) % 65536 = C at *
    generalize al i = A at *
    go_wp2_with fail
    refine Calls.mono (pop16_any (b &&& C) _ hn) ?_
    rintro e w2 ⟨rfl, k2⟩
    go_wp2
    go_ret
    exact ⟨by rw [← unhide HE]; rfl, k2⟩

set_option maxRecDepth 100000 in
set_option maxHeartbeats 1000000 in
theorem count_any (b : Nat) (w : World) (hb : b < 65536) :
    Calls Tryd.prog 33 #[.int .u16 b] w fun e w' => e = .returned (.int .i64 (cnt b 16 : Int)) ∧ Kept [] w w' := by
  go_enter Tryd.func33, Tryd.ntmps33
  go_wp2_with fail
  refine Calls.mono (pop16_any b _ hb) ?_
  rintro e w1 ⟨rfl, k1⟩
  go_wp2
  go_ret
  exact ⟨rfl, k1⟩
end Go.Proofs.YtjafmnemobcipaaDoor
