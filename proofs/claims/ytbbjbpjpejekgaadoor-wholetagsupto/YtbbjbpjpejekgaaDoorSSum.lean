import Derived.Test.YtbbjbpjpejekgaaDoorSWr
import Derived.Deep.WholeRow
namespace Go.Proofs.YtbbjbpjpejekgaaDoor
open Go.RowKit
set_option linter.unusedVariables false
set_option linter.unusedSimpArgs false

theorem Tryd.size_state : (Tryd.prog.info? 117).map (·.size) = some 73 := by kernel_rfl

theorem dig_get : ∀ (Y : List Nat) (k i : Nat), k < Y.length → i < 4 → (dig Y).getD (4 * k + i) 0 = (bytes4 (Y.getD k 0)).getD i 0
  | [], k, i, h, _ => by simp at h
  | y :: ys, 0, i, h, hi => by
    have e : dig (y :: ys) = bytes4 y ++ dig ys := rfl
    rw [e, List.getD_eq_getElem?_getD, List.getD_eq_getElem?_getD, Nat.mul_zero, Nat.zero_add, List.getElem?_append_left (by simp [bytes4]; omega)]; rfl
  | y :: ys, k + 1, i, h, hi => by
    have e : dig (y :: ys) = bytes4 y ++ dig ys := rfl
    have ih := dig_get ys k i (by simpa using h) hi
    rw [e, List.getD_eq_getElem?_getD, List.getElem?_append_right (by simp [bytes4]; omega), ← List.getD_eq_getElem?_getD]
    rw [show 4 * (k + 1) + i - (bytes4 y).length = 4 * k + i by simp [bytes4]; omega, ih, List.getD_cons_succ]
theorem dig_len : ∀ (Y : List Nat), (dig Y).length = 4 * Y.length
  | [] => rfl
  | y :: ys => by
    have e : dig (y :: ys) = bytes4 y ++ dig ys := rfl
    rw [e, List.length_append, dig_len ys]; simp [bytes4]; omega
theorem Tryd.sizeWord : (Tryd.prog.info? 113).map (·.size) = some 1 := by kernel_rfl
theorem run_index_w8 (ms : List Nat) (k : Nat) (w : World) (hl : ms.length = 8) (hk : k < 8) : (Instr.index 114 (.agg (row ms)) (.int .i64 k)).run Tryd.prog w = .ok (wv (ms.getD k 0)) w := by
  have h1 : (sizeOf 113).run Tryd.prog w = .ok 1 w := by
    cases hq : Tryd.prog.info? 113 with
    | none => have := Tryd.sizeWord; rw [hq] at this; cases this
    | some i => have := Tryd.sizeWord; rw [hq] at this; simp at this; simp [sizeOf, typeInfo, hq, this]
  have h2 : (isAgg 113).run Tryd.prog w = .ok false w := by
    unfold isAgg
    rw [Sem.run_bind, run_underlying Tryd.underlying113 w]; simp
  have hg := row_get ms k (by omega)
  simp [Instr.index, asIntOf, run_underlying Tryd.underlying114, Sem.run_bind, part, h1, h2, hg, go_sem]
  omega
theorem list_ext_getD {p q : List Nat} (hl : p.length = q.length) (h : ∀ j, j < p.length → p.getD j 0 = q.getD j 0) : p = q := by
  apply List.ext_getElem hl
  intro i h1 h2
  have := h i h1
  simpa [List.getD_eq_getElem?_getD, List.getElem?_eq_getElem h1, List.getElem?_eq_getElem h2] using this
theorem brow_setCell {w : World} {g : Nat} {ms : List Nat} {t : TypeId} (h : w.heap[g]? = some (.cells (brow ms) t (0, 0))) (k v : Nat) : (w.setCell ⟨g, k, none⟩ (u8 v)).heap[g]? = some (.cells (brow (ms.set k v)) t (0, 0)) := by
  rw [heap_setCell_same w g k _ t _ h, brow_set]
def zst : Array Value := (stc (List.replicate 8 0) (List.replicate 64 0) 0).toArray
theorem zst_size : zst.size = 73 := by unfold zst; rw [List.size_toArray, stc_len _ (by simp) (by simp)]
theorem zst_lit : (#[.int .u32 0, .int .u32 0, .int .u32 0, .int .u32 0, .int .u32 0, .int .u32 0, .int .u32 0, .int .u32 0, .int .u8 0, .int .u8 0, .int .u8 0, .int .u8 0, .int .u8 0, .int .u8 0, .int .u8 0, .int .u8 0, .int .u8 0, .int .u8 0, .int .u8 0, .int .u8 0, .int .u8 0, .int .u8 0, .int .u8 0, .int .u8 0, .int .u8 0, .int .u8 0, .int .u8 0, .int .u8 0, .int .u8 0, .int .u8 0, .int .u8 0, .int .u8 0, .int .u8 0, .int .u8 0, .int .u8 0, .int .u8 0, .int .u8 0, .int .u8 0, .int .u8 0, .int .u8 0, .int .u8 0, .int .u8 0, .int .u8 0, .int .u8 0, .int .u8 0, .int .u8 0, .int .u8 0, .int .u8 0, .int .u8 0, .int .u8 0, .int .u8 0, .int .u8 0, .int .u8 0, .int .u8 0, .int .u8 0, .int .u8 0, .int .u8 0, .int .u8 0, .int .u8 0, .int .u8 0, .int .u8 0, .int .u8 0, .int .u8 0, .int .u8 0, .int .u8 0, .int .u8 0, .int .u8 0, .int .u8 0, .int .u8 0, .int .u8 0, .int .u8 0, .int .u8 0, .int .u64 0] : Array Value) = zst := rfl
theorem Tryd.zero_state : (Tryd.prog.info? 117).map (fun i => (i.zero, i.size)) = some (some (.agg zst), 73) := by kernel_rfl
theorem zero_st (W : World) : (zeroValue 117).run Tryd.prog W = .ok (.agg zst) W := (zero_of_info Tryd.zero_state).1 W
theorem stc_one (ws bl : List Nat) (n : Nat) : (stc ws bl n).toArray.all (·.oneCell') = true := by
  rw [Array.all_eq_true_iff_forall_mem]
  intro v hv
  simp [stc] at hv
  rcases hv with ⟨x, _, rfl⟩ | ⟨x, _, rfl⟩ | rfl <;> rfl
theorem st_zero {w : World} {g : Nat} (h : w.heap[g]? = some (.cells zst 117 (0, 0))) : St w g [] := by
  refine ⟨List.replicate 8 0, List.replicate 64 0, ⟨h, ⟨by simp, by intro x hx; simp at hx; omega⟩, by simp, by intro x hx; simp at hx; omega⟩, fun h => absurd rfl h, rfl⟩

set_option maxRecDepth 100000 in
set_option maxHeartbeats 1000000 in
theorem ssum_any (g : Nat) (t : List Nat) (w : World) (hst : St w g t) (hl : t.length < 9223372036854775000) (hT : Tabs w) :
    Calls Tryd.prog 58 #[.pointer (some ⟨g, 0, none⟩)] w fun e w' => e = .returned (.agg (brow (hash t))) ∧ Kept [] w w' := by
  have HS := hide hst
  have HT := hide hT
  obtain ⟨ws, bl, hs, hw, hb⟩ := hst
  have HSA := hide hs
  have HSZ := hide (by rw [List.size_toArray, stc_len _ hs.2.1.1 hs.2.2.1]; exact Tryd.size_state : (Tryd.prog.info? 117).map (·.size) = some (stc ws bl t.length).toArray.size)
  have HWW := hide hw
  have HBB := hide hb
  clear hT hs hw hb
  have hzs := zero_st
  obtain ⟨W, hW⟩ : ∃ W, ((w.alloc (.cells (zb 32) 25)).alloc (.cells zst 117)).setRow (w.heap.size + 1) (stc ws bl t.length).toArray = W := ⟨_, rfl⟩
  have HKW := hide (by rw [← hW]; exact (((Kept.refl [] w).alloc _).alloc _).setRow (by simp) _ : Kept [] w W)
  have cW : W.cell? ⟨g, 72, none⟩ = some (.int .u64 (t.length : Int)) := (unhide HKW).cell (unhide HSA).count (by simp)
  have HZW := hide (by rw [← hW, setRow_other _ _ _ _ (by omega)]; exact heap_alloc2_old _ _ _ : W.heap[w.heap.size]? = some (.cells (zb 32) 25 (0, 0)))
  have HLW := hide (by rw [← hW]; exact ⟨setRow_heap _ _ _ _ _ _ (heap_alloc2_new _ _ _), (unhide HSA).2⟩ : StAt W (w.heap.size + 1) ws bl t.length)
  have hsW : (((w.alloc (.cells (zb 32) 25)).alloc (.cells zst 117)).setRow (w.heap.size + 1) (stc ws bl t.length).toArray).heap.size = w.heap.size + 1 + 1 := by simp
  have HsW := hide (by rw [← hW]; exact hsW : W.heap.size = w.heap.size + 1 + 1)
  clear hsW
  go_enter Tryd.func58, Tryd.ntmps58
  go_wp2_with (first
    | (rw [zb32]; refine wpList_load_row rfl 117 (.tmp 11) rfl g rfl _ (stc ws bl t.length).toArray (0, 0) _ ((Kept.refl [] w).alloc (.cells (zb 32) 25) |>.heap (unhide HSA).1 (by simp)) Tryd.underlying117 rfl (unhide HSZ) ?_)
    | (refine wpList_store_row rfl 117 _ (.tmp 12) rfl (w.heap.size + 1) (stc ws bl t.length).toArray rfl rfl _ zst (heap_alloc2_new _ _ _) (unhide HSZ) (by rw [zst_size, List.size_toArray, stc_len _ (unhide HSA).2.1.1 (unhide HSA).2.2.1]) (stc_one _ _ _) ?_))
  clear cW hW
  refine (padding_any t.length _ (by omega)).mono ?_
  rintro e w1 ⟨rfl, h1, k1⟩
  have HP1 := hide (rd_fresh h1 (pad_byte _) (by rw [pad_len]; unfold padZ; split <;> omega))
  have HK1 := hide ((unhide HKW).trans k1 (by simp))
  have HZ1 := hide (k1.heap (unhide HZW) (by simp))
  have HL1 := hide ((unhide HLW).kept k1 (by simp))
  have HS1 := hide (⟨ws, bl, unhide HL1, unhide HWW, unhide HBB⟩ : St w1 (w.heap.size + 1) t)
  have HT1 := hide ((unhide HT).kept (unhide HK1) (by simp) (by simp))
  have hg1 : 1 < w.heap.size := (unhide HT).two
  have HsP := hide k1.size
  clear k1 h1
  go_wp2_with fail
  refine (write_any (w.heap.size + 1) t _ (pad t.length) w1 (unhide HS1) (unhide HP1) (by intro _; simp [blk]; have := unhide HsW; omega) (by omega) (by rw [pad_len]; unfold padZ; split <;> omega) (unhide HT1)).mono ?_
  rintro e w2 ⟨rfl, s2, k2⟩
  have HS2 := hide s2
  have HK2 := hide ((unhide HK1).trans k2 (by simp))
  have HZ2 := hide (k2.heap (unhide HZ1) (by simp))
  clear s2 k2
  obtain ⟨Y, bl2, hs2, hw2, _⟩ := unhide HS2
  have hY : Y = hashW t := hw2 (by simp [pad])
  have HD := hide (by unfold hash; rw [hY] : hash t = dig Y)
  have HYw := hide hs2.2.1
  have HSY := hide (hs2.kept ((Kept.refl [] w2).alloc (.cells (zb 32) 25)) (by simp))
  have HZY := hide (by rw [List.length_map, hs2.2.1.1]; exact Tryd.size_a8 : (Tryd.prog.info? 114).map (·.size) = some (Y.map wv).length)
  clear hw2 hY hs2 HS1 HS2 HL1 HP1
  have hrw : (Y.map wv).toArray = row Y := rfl
  go_wp2_with (rw [zb32]; refine wpList_load_mid rfl 114 (.tmp 19) rfl (w.heap.size + 1) 0 rfl (Y.map wv) _ (unhide HSY).words Tryd.underlying114 rfl (unhide HZY) ?_)
  obtain ⟨gs, hgs⟩ : ∃ gs, w2.heap.size = gs := ⟨_, rfl⟩
  have HR0 := hide (by rw [← hgs]; exact heap_alloc_new _ _ : (w2.alloc (.cells (zb 32) 25)).heap[gs]? = some (.cells (brow (List.replicate 32 0)) 25 (0, 0)))
  have HK3 := hide ((unhide HK2).alloc (.cells (zb 32) 25))
  have HZ3 := hide (((Kept.refl [] w2).alloc (.cells (zb 32) 25)).heap (unhide HZ2) (by simp))
  have Hgs := hide (show w.heap.size < gs by rw [← hgs]; have h1 := (unhide HK2).size; have h2 := lt_of_block (unhide HSY).1; have h3 := lt_of_block (unhide HZ2); omega)
  rw [hgs]
  clear hgs hrw
  go_loopw [21] (fun t21 wr => ∃ (k : Nat) (xs : List Nat), k ≤ 8 ∧ t21 = .int .i64 k ∧ Hid (xs.length = 32 ∧ ∀ j, j < 4 * k → xs.getD j 0 = (dig Y).getD j 0) ∧ Hid (wr.heap[gs]? = some (.cells (brow xs) 25 (0, 0))) ∧ Hid (wr.heap[w.heap.size]? = some (.cells (zb 32) 25 (0, 0))) ∧ Hid (Kept [] w wr)) (fun t _ => 8 - (intOf t).toNat)
  case atStart => exact ⟨0, List.replicate 32 0, by omega, rfl, hide ⟨by simp, by intro j hj; omega⟩, HR0, HZ3, HK3⟩
  case round =>
    obtain ⟨k, xs, hk, rfl, HX, HR, HZ, HK⟩ := hrel
    by_cases hlt : k < 8
    · have hlt' : (k : Int) < 8 := by omega
      have hix := run_index_w8 Y k wr (unhide HYw).1 hlt
      have hyl := wordD (unhide HYw).2 k
      have hd0 := dig_get Y k 0 (by rw [(unhide HYw).1]; exact hlt) (by decide)
      have hd1 := dig_get Y k 1 (by rw [(unhide HYw).1]; exact hlt) (by decide)
      have hd2 := dig_get Y k 2 (by rw [(unhide HYw).1]; exact hlt) (by decide)
      have hd3 := dig_get Y k 3 (by rw [(unhide HYw).1]; exact hlt) (by decide)
      obtain ⟨y, hy⟩ : ∃ y, Y.getD k 0 = y := ⟨_, rfl⟩
      rw [hy] at hix hyl hd0 hd1 hd2 hd3
      have HXN := hide (⟨by simpa using (unhide HX).1, fun j hj => by
        have hxl := (unhide HX).1
        rcases (show j < 4 * k ∨ j = 4 * k ∨ j = 4 * k + 1 ∨ j = 4 * k + 2 ∨ j = 4 * k + 3 by omega) with h | rfl | rfl | rfl | rfl
        · rw [getD_set_other _ _ _ _ (by omega), getD_set_other _ _ _ _ (by omega), getD_set_other _ _ _ _ (by omega), getD_set_other _ _ _ _ (by omega)]; exact (unhide HX).2 j h
        · rw [getD_set_other _ _ _ _ (by omega), getD_set_other _ _ _ _ (by omega), getD_set_other _ _ _ _ (by omega), getD_set_same _ _ _ (by omega)]; rw [Nat.add_zero] at hd0; rw [hd0]; rfl
        · rw [getD_set_other _ _ _ _ (by omega), getD_set_other _ _ _ _ (by omega), getD_set_same _ _ _ (by simp; omega)]; rw [hd1]; rfl
        · rw [getD_set_other _ _ _ _ (by omega), getD_set_same _ _ _ (by simp; omega)]; rw [hd2]; rfl
        · rw [getD_set_same _ _ _ (by simp; omega)]; rw [hd3]; rfl⟩ : ((((xs.set (4 * k) (y / 16777216 % 256)).set (4 * k + 1) (y / 65536 % 256)).set (4 * k + 2) (y / 256 % 256)).set (4 * k + 3) (y % 256)).length = 32 ∧ ∀ j, j < 4 * (k + 1) → ((((xs.set (4 * k) (y / 16777216 % 256)).set (4 * k + 1) (y / 65536 % 256)).set (4 * k + 2) (y / 256 % 256)).set (4 * k + 3) (y % 256)).getD j 0 = (dig Y).getD j 0)
      have HN := hide (brow_setCell (brow_setCell (brow_setCell (brow_setCell (unhide HR) (4 * k) (y / 16777216 % 256)) (4 * k + 1) (y / 65536 % 256)) (4 * k + 2) (y / 256 % 256)) (4 * k + 3) (y % 256))
      have HKN := hide (((((unhide HK).setCell (p := ⟨gs, 4 * k, none⟩) (Or.inr (Nat.le_of_lt (unhide Hgs))) (Go.Proofs.YtbbjbpjpejekgaaDoor.u8 (y / 16777216 % 256))).setCell (p := ⟨gs, 4 * k + 1, none⟩) (Or.inr (Nat.le_of_lt (unhide Hgs))) (Go.Proofs.YtbbjbpjpejekgaaDoor.u8 (y / 65536 % 256))).setCell (p := ⟨gs, 4 * k + 2, none⟩) (Or.inr (Nat.le_of_lt (unhide Hgs))) (Go.Proofs.YtbbjbpjpejekgaaDoor.u8 (y / 256 % 256))).setCell (p := ⟨gs, 4 * k + 3, none⟩) (Or.inr (Nat.le_of_lt (unhide Hgs))) (Go.Proofs.YtbbjbpjpejekgaaDoor.u8 (y % 256)))
      have hgne : w.heap.size ≠ gs := by have := unhide Hgs; omega
      have HZN := hide ((heap_setCell_other _ ⟨gs, 4 * k + 3, none⟩ w.heap.size (Go.Proofs.YtbbjbpjpejekgaaDoor.u8 (y % 256)) hgne).trans ((heap_setCell_other _ ⟨gs, 4 * k + 2, none⟩ w.heap.size (Go.Proofs.YtbbjbpjpejekgaaDoor.u8 (y / 256 % 256)) hgne).trans ((heap_setCell_other _ ⟨gs, 4 * k + 1, none⟩ w.heap.size (Go.Proofs.YtbbjbpjpejekgaaDoor.u8 (y / 65536 % 256)) hgne).trans ((heap_setCell_other wr ⟨gs, 4 * k, none⟩ w.heap.size (Go.Proofs.YtbbjbpjpejekgaaDoor.u8 (y / 16777216 % 256)) hgne).trans (unhide HZ)))))
      have Q0 := hide (show ((y : Int) / 16777216) = ((y / 16777216 % 256 : Nat) : Int) by omega)
      have Q1 := hide (show ((y : Int) / 65536 % 256) = ((y / 65536 % 256 : Nat) : Int) by omega)
      have Q2 := hide (show ((y : Int) / 256 % 256) = ((y / 256 % 256 : Nat) : Int) by omega)
      have Q3 := hide (show ((y : Int) % 256) = ((y % 256 : Nat) : Int) by omega)
      have R1 := brow_setCell (unhide HR) (4 * k) (y / 16777216 % 256)
      have R2 := brow_setCell R1 (4 * k + 1) (y / 65536 % 256)
      have R3 := brow_setCell R2 (4 * k + 2) (y / 256 % 256)
      have xl := (unhide HX).1
      have a0 := brow_cell (unhide HR) (4 * k) (by omega)
      have a1 := brow_cell (unhide HR) (4 * k + 1) (by omega)
      have a2 := brow_cell (unhide HR) (4 * k + 2) (by omega)
      have a3 := brow_cell (unhide HR) (4 * k + 3) (by omega)
      have f0 : wr.frozen? ⟨gs, 4 * k, none⟩ = false := frozen_of_row _ _ _ _ _ (unhide HR)
      have f1 : wr.frozen? ⟨gs, 4 * k + 1, none⟩ = false := frozen_of_row _ _ _ _ _ (unhide HR)
      have f2 : wr.frozen? ⟨gs, 4 * k + 2, none⟩ = false := frozen_of_row _ _ _ _ _ (unhide HR)
      have f3 : wr.frozen? ⟨gs, 4 * k + 3, none⟩ = false := frozen_of_row _ _ _ _ _ (unhide HR)
      have g1 := brow_cell R1 (4 * k + 1) (by simp; omega)
      have g2 := brow_cell R2 (4 * k + 2) (by simp; omega)
      have g3 := brow_cell R3 (4 * k + 3) (by simp; omega)
      have p1 : ((wr.setCell ⟨gs, 4 * k, none⟩ (Go.Proofs.YtbbjbpjpejekgaaDoor.u8 (y / 16777216 % 256)))).frozen? ⟨gs, 4 * k + 1, none⟩ = false := frozen_of_row _ _ _ _ _ R1
      have p2 : ((wr.setCell ⟨gs, 4 * k, none⟩ (Go.Proofs.YtbbjbpjpejekgaaDoor.u8 (y / 16777216 % 256))).setCell ⟨gs, 4 * k + 1, none⟩ (Go.Proofs.YtbbjbpjpejekgaaDoor.u8 (y / 65536 % 256))).frozen? ⟨gs, 4 * k + 2, none⟩ = false := frozen_of_row _ _ _ _ _ R2
      have p3 : (((wr.setCell ⟨gs, 4 * k, none⟩ (Go.Proofs.YtbbjbpjpejekgaaDoor.u8 (y / 16777216 % 256))).setCell ⟨gs, 4 * k + 1, none⟩ (Go.Proofs.YtbbjbpjpejekgaaDoor.u8 (y / 65536 % 256))).setCell ⟨gs, 4 * k + 2, none⟩ (Go.Proofs.YtbbjbpjpejekgaaDoor.u8 (y / 256 % 256))).frozen? ⟨gs, 4 * k + 3, none⟩ = false := frozen_of_row _ _ _ _ _ R3
      simp only [Go.Proofs.YtbbjbpjpejekgaaDoor.u8, ← unhide Q0, ← unhide Q1, ← unhide Q2] at g1 g2 g3 p1 p2 p3
      clear hd0 hd1 hd2 hd3 hy xl hgne R1 R2 R3 a1 a2 a3 f1 f2 f3
      generalize xs.getD (4 * k) 0 = v0 at a0
      generalize (xs.set (4 * k) (y / 16777216 % 256)).getD (4 * k + 1) 0 = v1 at g1
      generalize ((xs.set (4 * k) (y / 16777216 % 256)).set (4 * k + 1) (y / 65536 % 256)).getD (4 * k + 2) 0 = v2 at g2
      generalize (((xs.set (4 * k) (y / 16777216 % 256)).set (4 * k + 1) (y / 65536 % 256)).set (4 * k + 2) (y / 256 % 256)).getD (4 * k + 3) 0 = v3 at g3
      go_wp2
      go_roundw
      case rel => exact ⟨k + 1, _, by omega, by go_num, HXN, hide (by rw [unhide Q0, unhide Q1, unhide Q2, unhide Q3]; exact unhide HN), hide (by rw [unhide Q0, unhide Q1, unhide Q2, unhide Q3]; exact unhide HZN), hide (by rw [unhide Q0, unhide Q1, unhide Q2, unhide Q3]; exact unhide HKN)⟩
      case measure => simp [intOf]; omega
    · have hlt' : ¬ (k : Int) < 8 := by omega
      have hk8 : k = 8 := by omega
      subst hk8
      have hxe : xs = hash t := by
        rw [unhide HD]
        exact list_ext_getD (by rw [(unhide HX).1, dig_len, (unhide HYw).1]) (fun j hj => (unhide HX).2 j (by rw [(unhide HX).1] at hj; omega))
      subst hxe
      have HZs := hide (by rw [brow_size, (unhide HX).1]; exact Tryd.size_a32b : (Tryd.prog.info? 25).map (·.size) = some (brow (hash t)).size)
      go_wp2_with (first
        | (refine wpList_load_row rfl 25 (.tmp 4) rfl gs rfl _ (brow (hash t)) (0, 0) _ (unhide HR) Tryd.underlying25 rfl (unhide HZs) ?_)
        | (refine wpList_store_row rfl 25 (.tmp 2) _ rfl w.heap.size (brow (hash t)) rfl rfl _ (zb 32) (unhide HZ) (unhide HZs) (by rw [zb_size, brow_size, (unhide HX).1]) (brow_one _) ?_))
      refine bodyPost_ret (v := .agg (brow (hash t))) ?_ rfl ⟨rfl, (unhide HK).setRow (by simp) _⟩
      exact results_cell_row rfl _ _ w.heap.size _ (brow (hash t)) (0, 0) _ rfl (setRow_heap _ _ _ _ _ _ (unhide HZ)) Tryd.underlying25 rfl (unhide HZs)

set_option maxRecDepth 100000 in
set_option maxHeartbeats 1000000 in
theorem snew_any (w : World) : Calls Tryd.prog 55 #[] w fun e w' => e = .returned (.pointer (some ⟨w.heap.size, 0, none⟩)) ∧ St w' w.heap.size [] ∧ Kept [] w w' := by
  have hzs := zero_st
  go_enter Tryd.func55, Tryd.ntmps55
  go_wp2_with (refine wpList_store_row rfl 117 _ _ rfl w.heap.size zst rfl rfl _ zst (heap_alloc_new _ _) (by rw [zst_size]; exact Tryd.size_state) rfl (stc_one _ _ _) ?_)
  go_ret
  exact ⟨rfl, st_zero (heap_alloc_new _ _), (Kept.refl [] w).alloc _⟩
end Go.Proofs.YtbbjbpjpejekgaaDoor
