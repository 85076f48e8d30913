import Derived.Test.YtecadmldnjlibaaDoorDDoc
import Derived.Test.YtecadmldnjlibaaDoorTwAll
namespace Go.Proofs.YtecadmldnjlibaaDoor
open Go.RowKit Go.BigFrame
set_option linter.unusedVariables false
set_option linter.unusedSimpArgs false

set_option maxRecDepth 100000 in
set_option maxHeartbeats 1000000 in
theorem refCut_any (k : Nat) (v : Value) (p : List Nat) (w : World) (h : Rd w v p) (hk : k ≤ 32) :
    Calls Tryd.prog 48 #[.int .i64 k, v] w fun e w' => e = .returned (.agg (brow (cutL k (hash p)))) ∧ Kept [] w w' := by
  have H := hide h
  clear h
  have hhl := hash_len p
  obtain ⟨hp, hhp⟩ : ∃ hp, hash p = hp := ⟨_, rfl⟩
  rw [hhp] at hhl ⊢
  have HHP := hide hhp
  obtain ⟨C, hC⟩ : ∃ C, cutL k hp = C := ⟨_, rfl⟩
  rw [hC]
  have HCC := hide hC
  clear hhp hC
  go_enter Tryd.func48, Tryd.ntmps48
  go_wp2_with fail
  rw [zb32]
  refine Calls.mono (refsum_any v p _ ((unhide H).old ((Kept.refl [] w).alloc _) (by simp))) ?_
  rintro e w1 ⟨rfl, k1⟩
  have HZ1 := hide (k1.heap (heap_alloc_new w (.cells (zb 32) 41)) (by simp))
  have HK1 := hide (((Kept.refl [] w).alloc (.cells (zb 32) 41)).trans k1 (by simp))
  clear k1
  rw [unhide HHP]
  have HS := hide (by rw [brow_size, hhl]; exact Tryd.size_a32b : (Tryd.prog.info? 40).map (·.size) = some (brow hp).size)
  go_wp2_with (rw [zb32]; refine wpList_store_row rfl 40 _ _ rfl w1.heap.size (brow hp) rfl rfl _ (zb 32) (heap_alloc_new _ _) (unhide HS) (by rw [zb_size, brow_size, hhl]) (brow_one _) ?_)
  have HD0 := hide (setRow_heap (w1.alloc (.cells (zb 32) 40)) w1.heap.size (zb 32) (brow hp) 40 (0, 0) (heap_alloc_new _ _))
  have hwlt : w.heap.size < w1.heap.size := lt_of_block (unhide HZ1)
  have HZ0 := hide ((setRow_other (w1.alloc (.cells (zb 32) 40)) w1.heap.size w.heap.size (brow hp) (by omega)).trans (((Kept.refl [] w1).alloc (.cells (zb 32) 40)).heap (unhide HZ1) (by simp)))
  have HK0 := hide (((unhide HK1).alloc (.cells (zb 32) 40)).setRow (g := w1.heap.size) (Or.inr (unhide HK1).size) (brow hp))
  obtain ⟨W, hW⟩ : ∃ W, (w1.alloc (.cells (zb 32) 40)).setRow w1.heap.size (brow hp) = W := ⟨_, rfl⟩
  rw [hW] at HD0 HZ0 HK0 ⊢
  obtain ⟨gd, hgd⟩ : ∃ gd, w1.heap.size = gd := ⟨_, rfl⟩
  rw [hgd] at HD0 hwlt ⊢
  have Hgd := hide (by have := (unhide HK1).size; omega : w.heap.size ≤ gd)
  clear hW hgd HZ1 HK1
  go_loopw [6] (fun t6 wq => ∃ (i : Nat) (ds : List Nat), k ≤ i ∧ i ≤ 32 ∧ t6 = .int .i64 i ∧ Hid (ds.length = 32 ∧ (∀ x, x < k → ds.getD x 0 = hp.getD x 0) ∧ ∀ x, k ≤ x → x < i → ds.getD x 0 = 0) ∧ Hid (wq.heap[gd]? = some (.cells (brow ds) 40 (0, 0))) ∧ Hid (wq.heap[w.heap.size]? = some (.cells (zb 32) 41 (0, 0))) ∧ Hid (Kept [] w wq)) (fun t _ => 32 - (intOf t).toNat)
  case atStart => exact ⟨k, hp, Nat.le_refl _, hk, rfl, hide ⟨hhl, fun x _ => rfl, fun x h1 h2 => by omega⟩, HD0, HZ0, HK0⟩
  case round =>
    clear HD0 HZ0 HK0
    obtain ⟨i, ds, hki, hi, rfl, HM, HD, HZ, HK⟩ := hrel
    by_cases hlt : i < 32
    · have hlt' : (i : Int) < 32 := by omega
      have cd := brow_cell (unhide HD) i (by rw [(unhide HM).1]; exact hlt)
      have fr : wr.frozen? ⟨gd, i, none⟩ = false := frozen_of_row _ _ _ _ _ (unhide HD)
      have HMN := hide (⟨by simpa using (unhide HM).1, fun x hx => by rw [getD_set_other _ _ _ _ (by omega)]; exact (unhide HM).2.1 x hx, fun x h1 h2 => by
        by_cases hx : x = i
        · subst hx; rw [getD_set_same _ _ _ (by rw [(unhide HM).1]; exact hlt)]
        · rw [getD_set_other _ _ _ _ hx]; exact (unhide HM).2.2 x h1 (by omega)⟩ : (ds.set i 0).length = 32 ∧ (∀ x, x < k → (ds.set i 0).getD x 0 = hp.getD x 0) ∧ ∀ x, k ≤ x → x < i + 1 → (ds.set i 0).getD x 0 = 0)
      have HND := hide (brow_setCell (unhide HD) i 0)
      have HNZ := hide ((heap_setCell_other wr ⟨gd, i, none⟩ w.heap.size (Go.Proofs.YtecadmldnjlibaaDoor.u8 0) (by simp only [ne_eq]; omega)).trans (unhide HZ))
      have HNK := hide ((unhide HK).setCell (p := ⟨gd, i, none⟩) (Or.inr (unhide Hgd)) (Go.Proofs.YtecadmldnjlibaaDoor.u8 0))
      go_wp2
      go_roundw
      case rel => exact ⟨i + 1, _, by omega, by omega, by go_num, HMN, HND, HNZ, HNK⟩
      case measure => simp [intOf]; omega
    · have hlt' : ¬ (i : Int) < 32 := by omega
      have hfin : ds = cutL k hp := by
        refine list_ext_getD (by rw [(unhide HM).1, cutL_len k hp hk hhl]) (fun x hx => ?_)
        rw [(unhide HM).1] at hx
        unfold cutL
        rcases Nat.lt_or_ge x k with g | g
        · rw [(unhide HM).2.1 x g, List.getD_eq_getElem?_getD, List.getD_eq_getElem?_getD, List.getElem?_append_left (by simp; omega), List.getElem?_take, if_pos g]
        · rw [(unhide HM).2.2 x g (by omega), List.getD_eq_getElem?_getD, List.getElem?_append_right (by simp; omega), List.getElem?_replicate]
          split <;> rfl
      have hcl := cutL_len k hp hk hhl
      rw [hfin, unhide HCC] at HD
      rw [unhide HCC] at hcl
      clear hfin HM
      have HS2 := hide (by rw [brow_size, hcl]; exact Tryd.size_dig : (Tryd.prog.info? 41).map (·.size) = some (brow C).size)
      go_wp2_with (first
        | (refine wpList_load_row rfl 40 _ rfl gd rfl _ (brow C) (0, 0) _ (unhide HD) Tryd.underlying40 rfl (by rw [brow_size, hcl]; exact Tryd.size_a32b) ?_)
        | (refine wpList_store_row rfl 41 _ _ rfl w.heap.size (brow C) rfl rfl _ (zb 32) (unhide HZ) (unhide HS2) (by rw [zb_size, brow_size, hcl]) (brow_one _) ?_))
      refine bodyPost_ret (v := .agg (brow C)) ?_ rfl ⟨rfl, (unhide HK).setRow (by simp) _⟩
      exact results_cell_row rfl _ _ w.heap.size _ (brow C) (0, 0) _ rfl (setRow_heap _ _ _ _ _ _ (unhide HZ)) Tryd.underlying41 rfl (unhide HS2)

end Go.Proofs.YtecadmldnjlibaaDoor
