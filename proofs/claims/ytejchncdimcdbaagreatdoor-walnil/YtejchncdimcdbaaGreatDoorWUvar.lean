import Derived.Test.YtejchncdimcdbaaGreatDoorWr
namespace Go.Proofs.YtejchncdimcdbaaGreatDoor
set_option linter.unusedVariables false
set_option maxRecDepth 100000
set_option linter.unusedSimpArgs false
open Go.RowKit

set_option maxRecDepth 100000 in
set_option maxHeartbeats 1000000 in
theorem wuvar_any (b : Nat) (v : Value) (bs : List Nat) (x : Nat) (w : World) (hw : WrAt w b v bs) (hx : x < 18446744073709551616) (hl : bs.length + 10 ≤ 140737488355328) :
    Calls Tryz.prog 145 #[.pointer (some ⟨b, 0, none⟩), .int .u64 x] w fun e w' => e = .returned (.tuple #[]) ∧ ∃ v', WrAt w' b v' (bs ++ uv x) ∧ Grew b v v' w w' := by
  go_enter Tryz.func145, Tryz.ntmps145
  go_wp2_with fail
  go_loopw [1] (fun t wr => ∃ (y : Nat) (cur : List Nat) (v' : Value), t = .int .u64 y ∧ y ≤ x ∧ Hid (cur ++ uv y = bs ++ uv x) ∧ Hid (WrAt wr b v' cur) ∧ Hid (Grew b v v' w wr)) (fun t _ => (intOf t).toNat)
  case atStart => exact ⟨x, bs, v, rfl, Nat.le_refl _, rfl, hw, Grew.refl _ _ _⟩
  case round =>
    obtain ⟨y, cur, v', rfl, hy, Hp, HW, HG⟩ := hrel
    have hlen : cur.length + 1 ≤ 140737488355328 := by have h1 := congrArg List.length (unhide Hp); have h2 := uv_len x hx; have h3 := uv_pos y; simp at h1; omega
    have hc0 := cell_of_one (unhide HW).at_
    by_cases hlt : y < 128
    · have hlt' : (y : Int) < 128 := by omega
      go_wp2_with (at_builtin; go_must (refine wpList_push rfl (.tmp 26) (.tmp 29) rfl rfl _ b v' cur _ wr.heap.size (by exact (unhide HW).alloc _) (by exact heap_alloc_new wr _) ?_ ?_ hlen rfl rfl ?_; rotate_right; intro g cap w1 hc1 hf1 HW1 HG1))
      · go_end0
        refine ⟨rfl, _, ?_, ((unhide HG).alloc _).trans (unhide HG1)⟩
        have h1 := unhide HW1
        rw [Int.toNat_natCast] at h1
        rw [← unhide Hp, uv_lt hlt]; exact h1
      · omega
      · omega
    · have hor := or128 ((y : Int) % 256) (by omega) (by omega)
      have hge : 128 ≤ (y : Int) := by omega
      go_wp2_with (at_builtin; go_must (refine wpList_push rfl (.tmp 14) (.tmp 18) rfl rfl _ b v' cur _ wr.heap.size (by exact (unhide HW).alloc _) (by exact heap_alloc_new wr _) ?_ ?_ hlen rfl rfl ?_; rotate_right; intro g cap w1 hc1 hf1 HW1 HG1))
      · go_roundw
        case rel =>
          refine ⟨y / 128, cur ++ [y % 128 + 128], _, by simp, by omega, ?_, ?_, ((unhide HG).alloc _).trans (unhide HG1)⟩
          · rw [← unhide Hp, uv_ge (v := y) (by omega)]; show _ = _; simp
          · have h1 := unhide HW1
            rw [show ((y : Int) % 128 + 128).toNat = y % 128 + 128 from by omega] at h1; exact h1
        case measure => simp [intOf]; omega
      · omega
      · omega
end Go.Proofs.YtejchncdimcdbaaGreatDoor
