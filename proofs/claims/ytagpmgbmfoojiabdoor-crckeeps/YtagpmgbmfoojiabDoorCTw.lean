import Derived.Test.YtagpmgbmfoojiabDoorCIx
namespace Go.Proofs.YtagpmgbmfoojiabDoor
open Go.RowKit
set_option linter.unusedVariables false
set_option linter.unusedSimpArgs false

set_option maxRecDepth 100000 in
set_option maxHeartbeats 1000000 in
theorem twice_any (e : Nat) (ms : List Nat) (w : World) (hL : Lin e ms) (hT : Tab w) :
    Calls Tryd.prog 20 #[.agg (row ms)] w fun x w' => ∃ ns, x = .returned (.agg (row ns)) ∧ Lin (e + e) ns ∧ Kept [] w w' := by
  have HL := hide hL
  have HT := hide hT
  clear hL hT
  go_enter Tryd.func20, Tryd.ntmps20
  go_wp2_with (rw [zeros32]; refine wpList_load_row rfl 38 (.tmp 1) rfl w.heap.size rfl _ (row ms) (0, 0) _ (heap_alloc3 _ _ _ _).1 Tryd.underlying38 rfl (by rw [row_size, (unhide HL).1]; exact Tryd.sizeLinear) ?_)
  go_loopw [7] (fun t7 wr => ∃ (k : Nat) (ns : List Nat), k ≤ 32 ∧ t7 = .int .i64 k ∧ Hid (ns.length = 32 ∧ ∀ i, i < k → ns.getD i 0 = it zz (e + e) (2 ^ i)) ∧ Hid (wr.heap[w.heap.size + 1 + 1]? = some (.cells (row ns) 38 (0, 0))) ∧ Hid (wr.heap[w.heap.size + 1]? = some (.cells zrow 38 (0, 0))) ∧ Hid (wr.heap[w.heap.size]? = some (.cells (row ms) 38 (0, 0))) ∧ Hid (Kept [] w wr)) (fun t _ => 32 - (intOf t).toNat)
  case atStart => exact ⟨0, List.replicate 32 0, by omega, rfl, hide ⟨by simp, by intro i hi; omega⟩, hide (heap_alloc3 _ _ _ _).2.2, hide (heap_alloc3 _ _ _ _).2.1, hide (heap_alloc3 _ _ _ _).1, hide ((((Kept.refl [] w).alloc _).alloc _).alloc _)⟩
  case round =>
    obtain ⟨k, ns, hk, rfl, HM, HR, HZ, HS, HK⟩ := hrel
    by_cases hlt : k < 32
    · have hlt' : (k : Int) < 32 := by omega
      have hpl := pow_lt32 hlt
      have hms := (unhide HL).2 k hlt
      have hz : it zz e (2 ^ k) < 4294967296 := it_lt (fun a h => zz_lt h) e hpl
      have hget := run_index_word ms k wr (unhide HL).1 hlt
      rw [hms] at hget
      have HE := hide (it_add zz e e (2 ^ k))
      generalize it zz e (2 ^ k) = z at hget hz HE
      clear hms
      go_wp2_with (refine wpList_load_row rfl 38 (.tmp 1) rfl w.heap.size rfl _ (row ms) (0, 0) _ (unhide HS) Tryd.underlying38 rfl (by rw [row_size, (unhide HL).1]; exact Tryd.sizeLinear) ?_)
      refine (of_any e ms z wr hz (unhide HL) ((unhide HT).kept (unhide HK))).mono ?_
      rintro x1 w1 ⟨rfl, k1⟩
      have hz2 : it zz e z < 4294967296 := it_lt (fun a h => zz_lt h) e hz
      generalize it zz e z = z2 at HE hz2
      have HR1 := hide (k1.heap (unhide HR) (by simp))
      have HZ1 := hide (k1.heap (unhide HZ) (by simp))
      have HS1 := hide (k1.heap (unhide HS) (by simp))
      have HK1 := hide ((unhide HK).trans k1 (by simp))
      have fg : w1.frozen? ⟨w.heap.size + 1 + 1, k, none⟩ = false := frozen_of_row _ _ _ _ _ (unhide HR1)
      have cg : w1.cell? ⟨w.heap.size + 1 + 1, k, none⟩ = some (u32 (ns.getD k 0)) := by
        rw [cell_of_row _ _ _ _ _ _ (unhide HR1), row_get _ _ (by rw [(unhide HM).1]; exact hlt)]
      have HN := hide (by
        have h1 := heap_setCell_same w1 (w.heap.size + 1 + 1) k _ 38 (u32 z2) (unhide HR1)
        rw [row_set] at h1; exact h1 : (w1.setCell ⟨w.heap.size + 1 + 1, k, none⟩ (u32 z2)).heap[w.heap.size + 1 + 1]? = some (.cells (row (ns.set k z2)) 38 (0, 0)))
      have HZN := hide ((heap_setCell_other w1 ⟨w.heap.size + 1 + 1, k, none⟩ (w.heap.size + 1) (u32 z2) (by simp)).trans (unhide HZ1))
      have HSN := hide ((heap_setCell_other w1 ⟨w.heap.size + 1 + 1, k, none⟩ w.heap.size (u32 z2) (by simp; omega)).trans (unhide HS1))
      have HKN := hide ((unhide HK1).setCell (p := ⟨w.heap.size + 1 + 1, k, none⟩) (by simp; omega) (u32 z2))
      have HMN := hide (⟨by simpa using (unhide HM).1, fun i hi => by
        by_cases hik : i = k
        · subst hik; rw [getD_set_same _ _ _ (by rw [(unhide HM).1]; exact hlt)]; exact (unhide HE).symm
        · rw [getD_set_other _ _ _ _ hik]; exact (unhide HM).2 i (by omega)⟩ : (ns.set k z2).length = 32 ∧ ∀ i, i < k + 1 → (ns.set k z2).getD i 0 = it zz (e + e) (2 ^ i))
      clear k1 hget
      go_wp2
      go_roundw
      case rel => exact ⟨k + 1, _, by omega, by go_num, HMN, HN, HZN, HSN, HKN⟩
      case measure => simp [intOf]; omega
    · have hlt' : ¬ (k : Int) < 32 := by omega
      have hk8 : k = 32 := by omega
      subst hk8
      go_wp2_with (first
        | (refine wpList_load_row rfl 38 (.tmp 3) rfl (w.heap.size + 1 + 1) rfl _ (row ns) (0, 0) _ (unhide HR) Tryd.underlying38 rfl (by rw [row_size, (unhide HM).1]; exact Tryd.sizeLinear) ?_)
        | (refine wpList_store_row rfl 38 (.tmp 2) (.tmp 17) rfl (w.heap.size + 1) (row ns) rfl rfl _ zrow (unhide HZ) (by rw [row_size, (unhide HM).1]; exact Tryd.sizeLinear) (by rw [zrow_size, row_size, (unhide HM).1]) (row_one _) ?_))
      refine bodyPost_ret (v := .agg (row ns)) ?_ rfl ⟨ns, rfl, ⟨(unhide HM).1, fun i hi => (unhide HM).2 i hi⟩, (unhide HK).setRow (by simp) _⟩
      exact results_cell_row rfl _ _ (w.heap.size + 1) _ (row ns) (0, 0) _ rfl (setRow_heap _ _ _ _ _ _ (unhide HZ)) Tryd.underlying38 rfl (by rw [row_size, (unhide HM).1]; exact Tryd.sizeLinear)

end Go.Proofs.YtagpmgbmfoojiabDoor
