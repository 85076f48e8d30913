import Derived.Test.YtbbjbpjpejekgaaDoorDDoc
import Derived.Test.YtbbjbpjpejekgaaDoorTwAll
namespace Go.Proofs.YtbbjbpjpejekgaaDoor
open Go.RowKit Go.BigFrame
set_option linter.unusedVariables false
set_option linter.unusedSimpArgs false

set_option maxRecDepth 100000 in
set_option maxHeartbeats 1000000 in
theorem refCut_any (k : Nat) (v : Value) (p : List Nat) (w : World) (h : Rd w v p) (hk : k ≤ 32) :
    Calls Tryd.prog 47 #[.int .i64 k, v] w fun e w' => e = .returned (.agg (brow (cutL k (hash p)))) ∧ Kept [] w w' := by
  have H := hide h
  clear h
  have hhl := hash_len p
  obtain ⟨hp, hhp⟩ : ∃ hp, hash p = hp := ⟨_, rfl⟩
  rw [hhp] at hhl ⊢
  have HHP := hide hhp
  obtain ⟨C, hC⟩ : ∃ C, cutL k hp = C := ⟨_, rfl⟩
  rw [hC]
  have HCC := hide hC
  clear hhp hC
  go_enter Tryd.func47, Tryd.ntmps47
  go_wp2_with fail
  rw [zb32]
  refine Calls.mono (refsum_any v p _ ((unhide H).old ((Kept.refl [] w).alloc _) (by simp))) ?_
  rintro e w1 ⟨rfl, k1⟩
  have HZ1 := hide (k1.heap (heap_alloc_new w (.cells (zb 32) 26)) (by simp))
  have HK1 := hide (((Kept.refl [] w).alloc (.cells (zb 32) 26)).trans k1 (by simp))
  clear k1
  rw [unhide HHP]
  have HS := hide (by rw [brow_size, hhl]; exact Tryd.size_a32b : (Tryd.prog.info? 25).map (·.size) = some (brow hp).size)
  go_wp2_with (rw [zb32]; refine wpList_store_row rfl 25 _ _ rfl w1.heap.size (brow hp) rfl rfl _ (zb 32) (heap_alloc_new _ _) (unhide HS) (by rw [zb_size, brow_size, hhl]) (brow_one _) ?_)
  have HD0 := hide (setRow_heap (w1.alloc (.cells (zb 32) 25)) w1.heap.size (zb 32) (brow hp) 25 (0, 0) (heap_alloc_new _ _))
  have hwlt : w.heap.size < w1.heap.size := lt_of_block (unhide HZ1)
  have HZ0 := hide ((setRow_other (w1.alloc (.cells (zb 32) 25)) w1.heap.size w.heap.size (brow hp) (by omega)).trans (((Kept.refl [] w1).alloc (.cells (zb 32) 25)).heap (unhide HZ1) (by simp)))
  have HK0 := hide (((unhide HK1).alloc (.cells (zb 32) 25)).setRow (g := w1.heap.size) (Or.inr (unhide HK1).size) (brow hp))
  obtain ⟨W, hW⟩ : ∃ W, (w1.alloc (.cells (zb 32) 25)).setRow w1.heap.size (brow hp) = W := ⟨_, rfl⟩
  rw [hW] at HD0 HZ0 HK0 ⊢
  obtain ⟨gd, hgd⟩ : ∃ gd, w1.heap.size = gd := ⟨_, rfl⟩
  rw [hgd] at HD0 hwlt ⊢
  have Hgd := hide (by have := (unhide HK1).size; omega : w.heap.size ≤ gd)
  clear hW hgd HZ1 HK1
  go_loopw [6] (fun t6 wq => ∃ (i : Nat) (ds : List Nat), k ≤ i ∧ i ≤ 32 ∧ t6 = .int .i64 i ∧ Hid (ds.length = 32 ∧ (∀ x, x < k → ds.getD x 0 = hp.getD x 0) ∧ ∀ x, k ≤ x → x < i → ds.getD x 0 = 0) ∧ Hid (wq.heap[gd]? = some (.cells (brow ds) 25 (0, 0))) ∧ Hid (wq.heap[w.heap.size]? = some (.cells (zb 32) 26 (0, 0))) ∧ Hid (Kept [] w wq)) (fun t _ => 32 - (intOf t).toNat)
  case atStart => exact ⟨k, hp, Nat.le_refl _, hk, rfl, hide ⟨hhl, fun x _ => rfl, fun x h1 h2 => by omega⟩, HD0, HZ0, HK0⟩
  case round =>
    clear HD0 HZ0 HK0
    obtain ⟨i, ds, hki, hi, rfl, HM, HD, HZ, HK⟩ := hrel
    by_cases hlt : i < 32
    · have hlt' : (i : Int) < 32 := by omega
      have cd := brow_cell (unhide HD) i (by rw [(unhide HM).1]; exact hlt)
      have fr : wr.frozen? ⟨gd, i, none⟩ = false := frozen_of_row _ _ _ _ _ (unhide HD)
      have HMN := hide (⟨by simpa using (unhide HM).1, fun x hx => by rw [getD_set_other _ _ _ _ (by omega)]; exact (unhide HM).2.1 x hx, fun x h1 h2 => by
        by_cases hx : x = i
        · subst hx; rw [getD_set_same _ _ _ (by rw [(unhide HM).1]; exact hlt)]
        · rw [getD_set_other _ _ _ _ hx]; exact (unhide HM).2.2 x h1 (by omega)⟩ : (ds.set i 0).length = 32 ∧ (∀ x, x < k → (ds.set i 0).getD x 0 = hp.getD x 0) ∧ ∀ x, k ≤ x → x < i + 1 → (ds.set i 0).getD x 0 = 0)
      have HND := hide (brow_setCell (unhide HD) i 0)
      have HNZ := hide ((heap_setCell_other wr ⟨gd, i, none⟩ w.heap.size (Go.Proofs.YtbbjbpjpejekgaaDoor.u8 0) (by simp only [ne_eq]; omega)).trans (unhide HZ))
      have HNK := hide ((unhide HK).setCell (p := ⟨gd, i, none⟩) (Or.inr (unhide Hgd)) (Go.Proofs.YtbbjbpjpejekgaaDoor.u8 0))
      go_wp2
      go_roundw
      case rel => exact ⟨i + 1, _, by omega, by omega, by go_num, HMN, HND, HNZ, HNK⟩
      case measure => simp [intOf]; omega
    · have hlt' : ¬ (i : Int) < 32 := by omega
      have hfin : ds = cutL k hp := by
        refine list_ext_getD (by rw [(unhide HM).1, cutL_len k hp hk hhl]) (fun x hx => ?_)
        rw [(unhide HM).1] at hx
        unfold cutL
        rcases Nat.lt_or_ge x k with g | g
        · rw [(unhide HM).2.1 x g, List.getD_eq_getElem?_getD, List.getD_eq_getElem?_getD, List.getElem?_append_left (by simp; omega), List.getElem?_take, if_pos g]
        · rw [(unhide HM).2.2 x g (by omega), List.getD_eq_getElem?_getD, List.getElem?_append_right (by simp; omega), List.getElem?_replicate]
          split <;> rfl
      have hcl := cutL_len k hp hk hhl
      rw [hfin, unhide HCC] at HD
      rw [unhide HCC] at hcl
      clear hfin HM
      have HS2 := hide (by rw [brow_size, hcl]; exact Tryd.size_dig : (Tryd.prog.info? 26).map (·.size) = some (brow C).size)
      go_wp2_with (first
        | (refine wpList_load_row rfl 25 _ rfl gd rfl _ (brow C) (0, 0) _ (unhide HD) Tryd.underlying25 rfl (by rw [brow_size, hcl]; exact Tryd.size_a32b) ?_)
        | (refine wpList_store_row rfl 26 _ _ rfl w.heap.size (brow C) rfl rfl _ (zb 32) (unhide HZ) (unhide HS2) (by rw [zb_size, brow_size, hcl]) (brow_one _) ?_))
      refine bodyPost_ret (v := .agg (brow C)) ?_ rfl ⟨rfl, (unhide HK).setRow (by simp) _⟩
      exact results_cell_row rfl _ _ w.heap.size _ (brow C) (0, 0) _ rfl (setRow_heap _ _ _ _ _ _ (unhide HZ)) Tryd.underlying26 rfl (unhide HS2)

set_option maxRecDepth 100000 in
set_option maxHeartbeats 1000000 in
theorem docSum_bad (z : Int) (v : Value) (w : World) (hz : -9223372036854775808 ≤ z ∧ z ≤ 9223372036854775807) (hw : widthB z = false) :
    Calls Tryd.prog 48 #[.int .i64 z, v] w fun e w' => e = .returned (.tuple #[.agg (zb 32), .int .i64 1]) ∧ Kept [] w w' := by
  go_enter Tryd.func48, Tryd.ntmps48
  go_wp2_with fail
  refine Calls.mono (rwidth_any z _ hz) ?_
  rintro e w1 ⟨rfl, rfl⟩
  rw [hw]
  go_wp2_with (rw [zb32]; refine wpList_store_row rfl 26 _ _ rfl w.heap.size (zb 32) rfl rfl _ (zb 32) (heap_alloc_new _ _) (by rw [zb_size]; exact Tryd.size_dig) rfl (brow_one _) ?_)
  refine bodyPost_ret (v := .tuple #[.agg (zb 32), .int .i64 1]) ?_ rfl ⟨rfl, ((Kept.refl [] w).alloc _).setRow (by simp) _⟩
  exact results_cell_tmp rfl _ _ w.heap.size _ (zb 32) (0, 0) _ rfl (setRow_heap _ _ _ _ _ _ (heap_alloc_new _ _)) Tryd.underlying26 rfl (by rw [zb_size]; exact Tryd.size_dig) _ rfl

set_option maxRecDepth 100000 in
set_option maxHeartbeats 1000000 in
theorem docSum_good (k : Nat) (v : Value) (ps : List (List Nat)) (w : World) (hk : 1 ≤ k ∧ k ≤ 32) (hv : RdL w v ps) (hl : ps.flatten.length ≤ 140737488355328) :
    Calls Tryd.prog 48 #[.int .i64 k, v] w fun e w' => e = .returned (.tuple #[.agg (brow (cutL k (hash ps.flatten))), .int .i64 0]) ∧ Kept [] w w' := by
  have hv0 := hv
  obtain ⟨ao, len, cap, vs, rfl, h1, h2', h3, h4, h5, h6⟩ := hv
  have H5 := hide h5
  have H6 := hide h6
  clear h5 h6
  subst h2'
  have hcl := cutL_len k (hash ps.flatten) hk.2 (hash_len _)
  obtain ⟨C, hC⟩ : ∃ C, cutL k (hash ps.flatten) = C := ⟨_, rfl⟩
  rw [hC] at hcl ⊢
  have HC := hide hC
  clear hC
  go_enter Tryd.func48, Tryd.ntmps48
  go_wp2_with fail
  rw [zb32]
  refine Calls.mono (rwidth_any k _ (by omega)) ?_
  rintro e w1 ⟨rfl, rfl⟩
  rw [show widthB (k : Int) = true by simp [widthB]; omega]
  have HK0 := hide ((Kept.refl [] w).alloc (.cells (zb 32) 26))
  have HZ0 := hide (heap_alloc_new w (.cells (zb 32) 26))
  obtain ⟨W, hW⟩ : ∃ W, w.alloc (.cells (zb 32) 26) = W := ⟨_, rfl⟩
  rw [hW] at HK0 HZ0 ⊢
  clear hW
  go_wp2_with fail
  go_loopw [6, 15] (fun t6 t15 wr => ∃ (i : Nat), i ≤ ps.length ∧ t15 = .int .i64 i ∧ Hid (wr.ownsRow W.heap.size 5 1 t6 (ps.take i).flatten.length ((ps.take i).flatten.map Go.Proofs.YtbbjbpjpejekgaaDoor.u8)) ∧ Hid (∀ x ∈ (ps.take i).flatten, x < 256) ∧ Hid (Kept [] W wr)) (fun _ t _ => ps.length - (intOf t).toNat)
  case atStart => exact ⟨0, Nat.zero_le _, rfl, hide (World.ownsRow_nil _ _ _ _), hide (by simp), hide (Kept.refl _ _)⟩
  case round =>
    obtain ⟨i, hi, rfl, HO, HB, HK⟩ := hrel
    by_cases hlt : i < ps.length
    · have hlt' : (i : Int) < ps.length := by omega
      obtain ⟨b, o, rfl, hcell⟩ := unhide H5 (by omega)
      have ci := ((unhide HK0).trans (unhide HK) (by simp)).cell (hcell i hlt) (by simp)
      have HR := hide ((unhide H6 i hlt).old ((unhide HK0).trans (unhide HK) (by simp)) (by simp))
      have HFS := hide (flat_snoc ps i hlt)
      have HFL := hide (flat_le ps (i + 1))
      clear hcell
      generalize vs.getD i undef = vi at ci HR
      generalize ps.getD i [] = pi at HR HFS
      obtain ⟨a1, n1, c1, rfl, hn1, _⟩ := id (unhide HR)
      subst hn1
      generalize (ps.take i).flatten = F at HO HB HFS
      go_wp2_with (at_builtin; refine wpList_appendAll rfl (.tmp 19) (.tmp 20) rfl rfl wr W.heap.size u6 F pi a1 pi.length c1 (unhide HO) (unhide HR) (by have h8 := unhide HFL; rw [unhide HFS, List.length_append] at h8; omega) (unhide HK).size rfl rfl ?_; intro ao2 cap2 w2 HO2 HG2 HA2)
      have HB2 := hide (by rw [unhide HFS]; intro x hx; rcases List.mem_append.1 hx with h | h; exact unhide HB x h; exact (unhide HR).byte x h : ∀ x ∈ (ps.take (i + 1)).flatten, x < 256)
      rw [← unhide HFS] at HO2
      have HK2 := hide ((unhide HK).grown (unhide HG2) (by intro j hj; right; exact ((unhide HO).lt j hj).1))
      refine ⟨⟨i + 1, by omega, by go_num, HO2, HB2, HK2⟩, ?_⟩
      simp [intOf]; omega
    · have hlt' : ¬ (i : Int) < ps.length := by omega
      have hie : i = ps.length := by omega
      subst hie
      rw [List.take_length] at HO HB
      go_wp2_with fail
      refine Calls.mono (refCut_any k u6 ps.flatten wr (rd_owns (unhide HO) (unhide HB) hl) hk.2) ?_
      rintro e w3 ⟨rfl, k3⟩
      rw [unhide HC]
      have HZ3 := hide (k3.heap ((unhide HK).heap (unhide HZ0) (by simp)) (by simp))
      have HK3 := hide (((unhide HK0).trans (unhide HK) (by simp)).trans k3 (by simp))
      clear k3
      have HS2 := hide (by rw [brow_size, hcl]; exact Tryd.size_dig : (Tryd.prog.info? 26).map (·.size) = some (brow C).size)
      go_wp2_with (refine wpList_store_row rfl 26 _ _ rfl w.heap.size (brow C) rfl rfl _ (zb 32) (unhide HZ3) (unhide HS2) (by rw [zb_size, brow_size, hcl]) (brow_one _) ?_)
      refine bodyPost_ret (v := .tuple #[.agg (brow C), .int .i64 0]) ?_ rfl ⟨rfl, (unhide HK3).setRow (by simp) _⟩
      exact results_cell_tmp rfl _ _ w.heap.size _ (brow C) (0, 0) _ rfl (setRow_heap _ _ _ _ _ _ (unhide HZ3)) Tryd.underlying26 rfl (unhide HS2) _ rfl
end Go.Proofs.YtbbjbpjpejekgaaDoor
