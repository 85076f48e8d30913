import Derived.Test.YtejchncdimcdbaaGreatDoorWr
import Derived.Deep.RegionLaw
import Derived.Laws.ShiftsVarLaws
namespace Go.Proofs.YtejchncdimcdbaaGreatDoor
set_option linter.unusedVariables false
set_option maxRecDepth 100000
set_option linter.unusedSimpArgs false
open Go.RowKit
attribute [local go_sem ↓] Go.wp_at_zero Go.wp_at_succ

theorem shr8 (x j : Nat) (hj : j ≤ 7) : Op.shift .shr .u64 (x : Int) .i64 (IntKind.i64.wrap (8 * (j : Int))) = pure (.int .u64 ((x / 256 ^ j : Nat) : Int)) := by
  have e : IntKind.i64.wrap (8 * (j : Int)) = ((8 * j : Nat) : Int) := by simp [IntKind.wrap, IntKind.bits, IntKind.signed]; omega
  rw [e, shift_shr .u64 .i64 _ _ (by omega) (by simp [IntKind.bits]; omega), Int.toNat_natCast, Int.pow_mul]
  simp
set_option maxRecDepth 100000 in
set_option maxHeartbeats 1000000 in
theorem wnumber_any (b : Nat) (v : Value) (bs : List Nat) (x n : Nat) (w : World) (hw : WrAt w b v bs) (hn : n ≤ 8) (hl : bs.length + 8 ≤ 140737488355328) :
    Calls Tryz.prog 192 #[.pointer (some ⟨b, 0, none⟩), .int .u64 x, .int .i64 n] w fun e w' => e = .returned (.tuple #[]) ∧ ∃ v', WrAt w' b v' (bs ++ wide x n) ∧ Grew b v v' w w' := by
  go_enter Tryz.func192, Tryz.ntmps192
  go_wp2_with fail
  go_loopw [6] (fun t wr => ∃ (k : Nat) (cur : List Nat) (v' : Value), t = .int .i64 ((k : Int) - 1) ∧ k ≤ n ∧ Hid (cur ++ wide x k = bs ++ wide x n) ∧ Hid (WrAt wr b v' cur) ∧ Hid (Grew b v v' w wr)) (fun t _ => (intOf t + 1).toNat)
  case atStart => exact ⟨n, bs, v, rfl, Nat.le_refl _, rfl, hw, Grew.refl _ _ _⟩
  case round =>
    obtain ⟨k, cur, v', rfl, hk, Hp, HW, HG⟩ := hrel
    have hlen : cur.length + k ≤ 140737488355328 := by have h1 := congrArg List.length (unhide Hp); simp [wide_len] at h1; omega
    have hc0 := cell_of_one (unhide HW).at_
    by_cases h0 : k = 0
    · subst h0
      go_wp2_with fail
      go_end0
      refine ⟨rfl, _, ?_, unhide HG⟩
      have h1 := unhide Hp
      simp only [wide, List.append_nil] at h1
      rw [← h1]; exact unhide HW
    · obtain ⟨j, rfl⟩ : ∃ j, k = j + 1 := ⟨k - 1, by omega⟩
      have e1 : (((j + 1 : Nat) : Int) - 1) = (j : Int) := by omega
      rw [e1]
      have hj0 : (0 : Int) ≤ (j : Int) := by omega
      have hj8 : (j : Int) ≤ 7 := by omega
      obtain ⟨q, hq⟩ : ∃ q, q = x / 256 ^ j := ⟨_, rfl⟩
      have hsh := shr8 x j (by omega)
      rw [← hq] at hsh
      have Hq := hide hq
      clear hq
      have hz0 : 0 ≤ IntKind.u8.wrap (q : Int) := by rw [IntKind.wrap_u8']; omega
      have hz1 : IntKind.u8.wrap (q : Int) < 256 := by rw [IntKind.wrap_u8']; omega
      have hca : ∀ o, (wr.alloc o).cell? ⟨b, 0, none⟩ = some v' := fun o => cell_of_one ((unhide HW).alloc o).at_
      have hlen1 : cur.length + 1 ≤ 140737488355328 := by omega
      go_wp2_with fail
      go_region_law ((refine step_push (by rfl) (.tmp 19) (.tmp 25) (by rfl) (by rfl) _ b v' cur (IntKind.u8.wrap (q : Int)) wr.heap.size (by first | exact (unhide HW).drew.alloc _ | exact ((unhide HW).alloc _).drew) (by exact heap_alloc_new wr _) hz0 hz1 hlen1 (by simp [Act.eval]) (by simp [Act.eval]) ?_; intro g cap w1 hc1 hf1 HW1 HG1))
      all_goals
        go_wp2
        go_roundw
        case rel =>
          refine ⟨j, cur ++ [q % 256], _, rfl, by omega, ?_, ?_, (((unhide HG).alloc _).drew).trans (unhide HG1)⟩
          · rw [← unhide Hp, unhide Hq]; show _ = _; simp [wide]
          · have h1 := unhide HW1
            rw [show (IntKind.u8.wrap (q : Int)).toNat = q % 256 from by rw [IntKind.wrap_u8']; omega] at h1; exact h1
        case measure => simp [intOf]
end Go.Proofs.YtejchncdimcdbaaGreatDoor
