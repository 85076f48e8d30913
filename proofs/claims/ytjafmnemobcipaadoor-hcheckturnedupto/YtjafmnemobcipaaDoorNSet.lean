import Derived.Test.YtjafmnemobcipaaDoorDDoc
import Derived.Test.YtjafmnemobcipaaDoorNBit
import Derived.Lib.BitFns
import Derived.Laws.BitsAll
namespace Go.Proofs.YtjafmnemobcipaaDoor
open Go.RowKit Go.BigFrame
set_option linter.unusedVariables false
set_option linter.unusedSimpArgs false

theorem pop_cnt : ∀ n : Fin 256, Lib.pop8 (n.val : Int) = (cnt n.val 8 : Int) := by decide +kernel
theorem pop8_cnt {b : Nat} (h : b < 256) : Lib.pop8 (b : Int) = (cnt b 8 : Int) := pop_cnt ⟨b, h⟩

set_option maxRecDepth 100000 in
set_option maxHeartbeats 1000000 in
theorem alone_any (i : Int) (w : World) (hi : -9223372036854775808 ≤ i ∧ i ≤ 9223372036854775807) :
    Calls Tryd.prog 54 #[.int .i64 i] w fun e w' => e = .returned (.int .u16 (al i : Int)) ∧ w' = w := by
  by_cases h1 : i < 0
  · have e := al_out (i := i) (by omega)
    rw [e]
    clear e
    go_enter Tryd.func54, Tryd.ntmps54
    go_wp2
    go_ret
    exact ⟨rfl, rfl⟩
  · by_cases h2 : 15 < i
    · have e := al_out (i := i) (by omega)
      rw [e]
      clear e
      go_enter Tryd.func54, Tryd.ntmps54
      go_wp2
      go_ret
      exact ⟨rfl, rfl⟩
    · obtain ⟨k, rfl⟩ : ∃ k : Nat, i = k := ⟨i.toNat, by omega⟩
      have hk : k ≤ 15 := by omega
      rw [al_in hk]
      have hw : IntKind.u16.wrap (2 ^ k : Int) = ((2 ^ k : Nat) : Int) := by
        have h9 : 2 ^ k ≤ 2 ^ 15 := Nat.pow_le_pow_right (by decide) hk
        have h8 : (2 ^ k : Int) = ((2 ^ k : Nat) : Int) := by simp
        rw [h8]
        obtain ⟨y, hy⟩ : ∃ y, 2 ^ k = y := ⟨_, rfl⟩
        rw [hy] at h9 ⊢
        simp [IntKind.wrap, IntKind.signed, IntKind.bits]
        omega
      go_enter Tryd.func54, Tryd.ntmps54
      go_wp2
      go_ret
      exact ⟨by simp, rfl⟩

theorem run_pop {P : Program} {o : Oper} {a : Act} (t : TypeId) (x y : Operand) (ho : o.op = .index t x y) (k : IntKind) (b : Nat) (hx : a.eval x = .string Lib.pop8tab) (hy : a.eval y = .int k b) (hu : P.underlying t = some .string) (hb : b < 256) (w : World) :
    (execOp a.eval o).run P w = .ok (.value (.int .u8 (cnt b 8 : Int))) w := by
  unfold execOp
  simp only [ho, hx, hy, Sem.run_bind, Sem.run_pure]
  rw [Lib.run_index_pop8tab w t k (b : Int) hu (by omega) (by omega), pop8_cnt hb]
  rfl
theorem run_shr16 {P : Program} {o : Oper} {a : Act} (t t2 : TypeId) (x y : Operand) (ho : o.op = .binOp .shr t x y t2) (k2 : IntKind) (b m : Nat) (hm : m < 16) (hx : a.eval x = .int .u16 b) (hy : a.eval y = .int k2 m) (w : World) :
    (execOp a.eval o).run P w = .ok (.value (.int .u16 ((b / 2 ^ m : Nat) : Int))) w := by
  have e : (Op.shift .shr .u16 (b : Int) k2 (m : Int)).run P w = .ok (.int .u16 ((b / 2 ^ m : Nat) : Int)) w := by
    rw [shift_shr .u16 k2 (b : Int) (m : Int) (by omega) (by simp [IntKind.bits]; omega)]
    have e2 : (b : Int) / 2 ^ (m : Int).toNat = ((b / 2 ^ m : Nat) : Int) := by
      rw [Int.toNat_natCast, Int.natCast_ediv]; simp
    rw [e2]
    rfl
  unfold execOp
  simp only [ho, hx, hy, binOp, eqGuard, Sem.run_bind, Bool.not_false, if_true, Sem.run_pure, Result.andThen_ok, e]
theorem run_and16 {P : Program} {o : Oper} {a : Act} (t t2 : TypeId) (x y : Operand) (ho : o.op = .binOp .and t x y t2) (b m : Nat) (hb : b < 65536) (hm : m < 65536) (hx : a.eval x = .int .u16 b) (hy : a.eval y = .int .u16 m) (w : World) :
    (execOp a.eval o).run P w = .ok (.value (.int .u16 ((b &&& m : Nat) : Int))) w := by
  unfold execOp
  simp only [ho, hx, hy, binOp, eqGuard, intBits_and, u16_and_nat b m hb hm, Bool.not_false, if_true, ne_eq, not_true, if_false, Sem.run_bind, Sem.run_pure, Result.andThen_ok]
theorem run_low8 {P : Program} {o : Oper} {a : Act} (t t2 : TypeId) (x y : Operand) (ho : o.op = .binOp .and t x y t2) (b : Nat) (hb : b < 65536) (hx : a.eval x = .int .u16 b) (hy : a.eval y = .int .u16 255) (w : World) :
    (execOp a.eval o).run P w = .ok (.value (.int .u16 ((b % 256 : Nat) : Int))) w := by
  have h := run_and16 t t2 x y ho b 255 hb (by decide) hx hy w (P := P)
  rw [show (255 : Nat) = 2 ^ 8 - 1 by rfl, Nat.and_two_pow_sub_one_eq_mod] at h
  exact h

set_option maxRecDepth 100000 in
set_option maxHeartbeats 1000000 in
theorem pop16_any (b : Nat) (w : World) (hb : b < 65536) :
    Calls Tryd.prog 50 #[.int .u16 b] w fun e w' => e = .returned (.int .i64 (cnt b 16 : Int)) ∧ Kept [] w w' := by
  have l1 := cnt_le (b / 256) 8
  have l2 := cnt_le (b % 256) 8
  rw [cnt_split]
  go_enter Tryd.func50, Tryd.ntmps50
  go_wp2_with fail
  have hne : ∀ p : Prop, (∀ w', Kept [] w w' → p) = p := fun p => propext ⟨fun h => h w (Kept.refl [] w), fun h _ _ => h⟩
  refine wp_region_keep (by kernel_rfl) (by kernel_rfl) ?_
  go_big_quiet_step (fail)
  refine wpQuiet_val rfl (.int .u16 ((b / 256 : Nat) : Int)) (fun w' _ => run_shr16 _ _ (.tmp 3) (.const (.int .u64 8)) rfl .u64 b 8 (by decide) rfl rfl w') ?_
  simp only [Act.put, List.setIfInBounds_toArray, List.set_cons_succ, List.set_cons_zero]
  refine wpQuiet_val rfl (.int .u8 (cnt (b / 256) 8 : Int)) (fun w' _ => run_pop 9 _ _ rfl .u16 (b / 256) (by kernel_rfl) rfl Tryd.underlying9 (by omega) w') ?_
  simp only [Act.put, List.setIfInBounds_toArray, List.set_cons_succ, List.set_cons_zero]
  go_big_quiet_step (fail)
  refine wpQuiet_val rfl (.int .u16 ((b % 256 : Nat) : Int)) (fun w' _ => run_low8 _ _ (.tmp 6) (.const (.int .u16 255)) rfl b hb rfl rfl w') ?_
  simp only [Act.put, List.setIfInBounds_toArray, List.set_cons_succ, List.set_cons_zero]
  refine wpQuiet_val rfl (.int .u8 (cnt (b % 256) 8 : Int)) (fun w' _ => run_pop 9 _ _ rfl .u16 (b % 256) (by kernel_rfl) rfl Tryd.underlying9 (by omega) w') ?_
  simp only [Act.put, List.setIfInBounds_toArray, List.set_cons_succ, List.set_cons_zero]
  repeat (go_big_quiet_step (fail))
  refine wpQuiet_nil ?_
  intro w5 hw5
  clear hne
  go_wp2
  go_ret
  exact ⟨rfl, hw5⟩
end Go.Proofs.YtjafmnemobcipaaDoor
