import Derived.Test.YtbbjbpjpejekgaaDoorSRot
namespace Go.Proofs.YtbbjbpjpejekgaaDoor
open Go.RowKit
set_option linter.unusedVariables false
set_option linter.unusedSimpArgs false

theorem or4 (y0 y1 y2 y3 : Nat) (h0 : y0 < 256) (h1 : y1 < 256) (h2 : y2 < 256) (h3 : y3 < 256) :
    bits .or .u32 (bits .or .u32 (bits .or .u32 ((y0 : Int) * 16777216) ((y1 : Int) * 65536)) ((y2 : Int) * 256)) (y3 : Int) = ((y0 * 16777216 + y1 * 65536 + y2 * 256 + y3 : Nat) : Int) := by
  have e0 : (y0 : Int) * 16777216 = ((y0 * 16777216 : Nat) : Int) := by simp
  have e1 : (y1 : Int) * 65536 = ((y1 * 65536 : Nat) : Int) := by simp
  have e2 : (y2 : Int) * 256 = ((y2 * 256 : Nat) : Int) := by simp
  have o1 := Nat.two_pow_add_eq_or_of_lt (i := 24) (b := y1 * 65536) (by omega) y0
  have o2 := Nat.two_pow_add_eq_or_of_lt (i := 16) (b := y2 * 256) (by omega) (y0 * 256 + y1)
  have o3 := Nat.two_pow_add_eq_or_of_lt (i := 8) (b := y3) (by omega) (y0 * 65536 + y1 * 256 + y2)
  have j1 : y0 * 16777216 ||| y1 * 65536 = y0 * 16777216 + y1 * 65536 := by rw [show y0 * 16777216 = 2 ^ 24 * y0 by omega, ← o1]
  have j2 : (y0 * 16777216 + y1 * 65536) ||| y2 * 256 = y0 * 16777216 + y1 * 65536 + y2 * 256 := by
    rw [show y0 * 16777216 + y1 * 65536 = 2 ^ 16 * (y0 * 256 + y1) by omega, ← o2]
  have j3 : (y0 * 16777216 + y1 * 65536 + y2 * 256) ||| y3 = y0 * 16777216 + y1 * 65536 + y2 * 256 + y3 := by
    rw [show y0 * 16777216 + y1 * 65536 + y2 * 256 = 2 ^ 8 * (y0 * 65536 + y1 * 256 + y2) by omega, ← o3]
  rw [e0, e1, e2, u32_or_nat _ _ (by omega) (by omega), j1, u32_or_nat _ _ (by omega) (by omega), j2, u32_or_nat _ _ (by omega) (by omega), j3]

set_option maxRecDepth 100000 in
set_option maxHeartbeats 1000000 in
theorem schedule_any (b : List Nat) (w : World) (hl : b.length = 64) (hb : ∀ x ∈ b, x < 256) :
    Calls Tryd.prog 89 #[.agg (brow b)] w fun e w' => ∃ ws, e = .returned (.agg (row ws)) ∧ ws.length = 64 ∧ (∀ i, i < 64 → ws.getD i 0 = wd b i) ∧ Kept [] w w' := by
  go_enter Tryd.func89, Tryd.ntmps89
  go_wp2
  rw [zw64]
  have HB := hide hb
  clear hb
  go_loopw [10] (fun t10 wr => ∃ (k : Nat) (ws : List Nat), k ≤ 16 ∧ t10 = .int .i64 k ∧ Hid (ws.length = 64 ∧ ∀ i, i < k → ws.getD i 0 = wd b i) ∧ Hid (wr.heap[w.heap.size + 1 + 1]? = some (.cells (row ws) 124 (0, 0))) ∧ Hid (wr.heap[w.heap.size + 1]? = some (.cells (zw 64) 124 (0, 0))) ∧ Hid (wr.heap[w.heap.size]? = some (.cells (brow b) 115 (0, 0))) ∧ Hid (Kept [] w wr)) (fun t _ => 16 - (intOf t).toNat)
  case atStart => exact ⟨0, List.replicate 64 0, by omega, rfl, hide ⟨by simp, by intro i hi; omega⟩, hide (heap_alloc3 _ _ _ _).2.2, hide (heap_alloc3 _ _ _ _).2.1, hide (heap_alloc3 _ _ _ _).1, hide ((((Kept.refl [] w).alloc _).alloc _).alloc _)⟩
  case round =>
    obtain ⟨k, ws, hk, rfl, HM, HR, HZ, HS, HK⟩ := hrel
    by_cases hlt : k < 16
    · have hlt' : (k : Int) < 16 := by omega
      have c0 := brow_cell (unhide HS) (4 * k) (by omega)
      have c1 := brow_cell (unhide HS) (4 * k + 1) (by omega)
      have c2 := brow_cell (unhide HS) (4 * k + 2) (by omega)
      have c3 := brow_cell (unhide HS) (4 * k + 3) (by omega)
      have b0 := byteD (unhide HB) (4 * k)
      have b1 := byteD (unhide HB) (4 * k + 1)
      have b2 := byteD (unhide HB) (4 * k + 2)
      have b3 := byteD (unhide HB) (4 * k + 3)
      have HW := hide (by rw [wd_small b k hlt]; rfl : wd b k = b.getD (4 * k) 0 * 16777216 + b.getD (4 * k + 1) 0 * 65536 + b.getD (4 * k + 2) 0 * 256 + b.getD (4 * k + 3) 0)
      generalize b.getD (4 * k) 0 = y0 at c0 b0 HW
      generalize b.getD (4 * k + 1) 0 = y1 at c1 b1 HW
      generalize b.getD (4 * k + 2) 0 = y2 at c2 b2 HW
      generalize b.getD (4 * k + 3) 0 = y3 at c3 b3 HW
      have fg : wr.frozen? ⟨w.heap.size + 1 + 1, k, none⟩ = false := frozen_of_row _ _ _ _ _ (unhide HR)
      have cg := row_cell (unhide HR) k (by rw [(unhide HM).1]; omega)
      go_wp2
      go_region
      rw [or4 y0 y1 y2 y3 b0 b1 b2 b3, ← unhide HW]
      have HN := hide (by
        have h1 := heap_setCell_same wr (w.heap.size + 1 + 1) k _ 124 (wv (wd b k)) (unhide HR)
        rw [row_set] at h1; exact h1 : (wr.setCell ⟨w.heap.size + 1 + 1, k, none⟩ (wv (wd b k))).drew.heap[w.heap.size + 1 + 1]? = some (.cells (row (ws.set k (wd b k))) 124 (0, 0)))
      have HZN := hide ((heap_setCell_other wr ⟨w.heap.size + 1 + 1, k, none⟩ (w.heap.size + 1) (wv (wd b k)) (by simp)).trans (unhide HZ) : (wr.setCell ⟨w.heap.size + 1 + 1, k, none⟩ (wv (wd b k))).drew.heap[w.heap.size + 1]? = _)
      have HSN := hide ((heap_setCell_other wr ⟨w.heap.size + 1 + 1, k, none⟩ w.heap.size (wv (wd b k)) (by simp; omega)).trans (unhide HS) : (wr.setCell ⟨w.heap.size + 1 + 1, k, none⟩ (wv (wd b k))).drew.heap[w.heap.size]? = _)
      have HKN := hide ((unhide HK).setCell (p := ⟨w.heap.size + 1 + 1, k, none⟩) (by simp; omega) (wv (wd b k))).drew
      have HMN := hide (⟨by simpa using (unhide HM).1, fun i hi => by
        by_cases hik : i = k
        · subst hik; exact getD_set_same _ _ _ (by rw [(unhide HM).1]; omega)
        · rw [getD_set_other _ _ _ _ hik]; exact (unhide HM).2 i (by omega)⟩ : (ws.set k (wd b k)).length = 64 ∧ ∀ i, i < k + 1 → (ws.set k (wd b k)).getD i 0 = wd b i)
      go_wp2
      go_roundw
      case rel => exact ⟨k + 1, _, by omega, by go_num, HMN, HN, HZN, HSN, HKN⟩
      case measure => simp [intOf]; omega
    · have hlt' : ¬ (k : Int) < 16 := by omega
      have hk16 : k = 16 := by omega
      subst hk16
      go_wp2
      go_loopw [5] (fun t5 wq => ∃ (k : Nat) (ws : List Nat), 16 ≤ k ∧ k ≤ 64 ∧ t5 = .int .i64 k ∧ Hid (ws.length = 64 ∧ ∀ i, i < k → ws.getD i 0 = wd b i) ∧ Hid (wq.heap[w.heap.size + 1 + 1]? = some (.cells (row ws) 124 (0, 0))) ∧ Hid (wq.heap[w.heap.size + 1]? = some (.cells (zw 64) 124 (0, 0))) ∧ Hid (Kept [] w wq)) (fun t _ => 64 - (intOf t).toNat)
      case atStart => exact ⟨16, ws, by omega, by omega, rfl, HM, HR, HZ, HK⟩
      case round =>
        obtain ⟨k, vs, hk1, hk2, rfl, HV, HQ, HY, HJ⟩ := hrel
        by_cases hlt : k < 64
        · have hlt2 : (k : Int) < 64 := by omega
          have hge : (16 : Int) ≤ k := by omega
          have hvl := (unhide HV).1
          have c15 := row_cell (unhide HQ) (k - 15) (by omega)
          have c2 := row_cell (unhide HQ) (k - 2) (by omega)
          have c16 := row_cell (unhide HQ) (k - 16) (by omega)
          have c7 := row_cell (unhide HQ) (k - 7) (by omega)
          rw [(unhide HV).2 (k - 15) (by omega)] at c15
          rw [(unhide HV).2 (k - 2) (by omega)] at c2
          rw [(unhide HV).2 (k - 16) (by omega)] at c16
          rw [(unhide HV).2 (k - 7) (by omega)] at c7
          have x1 := wd_lt b (unhide HB) (k - 15)
          have x2 := wd_lt b (unhide HB) (k - 2)
          have x3 := wd_lt b (unhide HB) (k - 16)
          have x4 := wd_lt b (unhide HB) (k - 7)
          have HW := hide (wd_big b k hk1)
          generalize wd b (k - 15) = x at c15 x1 HW
          generalize wd b (k - 2) = y at c2 x2 HW
          generalize wd b (k - 16) = p at c16 x3 HW
          generalize wd b (k - 7) = q at c7 x4 HW
          have s0l := sg0_lt x1
          have s1l := sg1_lt x2
          have a1 : bits .xor .u32 (rotr 7 x : Int) (rotr 18 x : Int) = ((rotr 7 x ^^^ rotr 18 x : Nat) : Int) := u32_xor_nat _ _ (rotr_lt (by omega) x1) (rotr_lt (by omega) x1)
          have a2 : bits .xor .u32 ((rotr 7 x ^^^ rotr 18 x : Nat) : Int) ((x : Int) / 8) = (sg0 x : Nat) := by
            rw [show ((x : Int) / 8) = ((x / 8 : Nat) : Int) by omega]; exact u32_xor_nat _ _ (xlt (rotr_lt (by omega) x1) (rotr_lt (by omega) x1)) (by omega)
          have a3 : bits .xor .u32 (rotr 17 y : Int) (rotr 19 y : Int) = ((rotr 17 y ^^^ rotr 19 y : Nat) : Int) := u32_xor_nat _ _ (rotr_lt (by omega) x2) (rotr_lt (by omega) x2)
          have a4 : bits .xor .u32 ((rotr 17 y ^^^ rotr 19 y : Nat) : Int) ((y : Int) / 1024) = (sg1 y : Nat) := by
            rw [show ((y : Int) / 1024) = ((y / 1024 : Nat) : Int) by omega]; exact u32_xor_nat _ _ (xlt (rotr_lt (by omega) x2) (rotr_lt (by omega) x2)) (by omega)
          clear hvl
          go_wp2_with fail
          go_quiet (fail)
          go_wp2_with fail
          refine (rot_any x 7 _ x1 (by decide) (by decide)).mono ?_
          rintro e1 w1 ⟨rfl, hw1⟩
          subst hw1
          go_wp2_with fail
          refine (rot_any x 18 _ x1 (by decide) (by decide)).mono ?_
          rintro e1 w1 ⟨rfl, hw1⟩
          subst hw1
          go_wp2_with fail
          refine (rot_any y 17 _ x2 (by decide) (by decide)).mono ?_
          rintro e1 w1 ⟨rfl, hw1⟩
          subst hw1
          go_wp2_with fail
          refine (rot_any y 19 _ x2 (by decide) (by decide)).mono ?_
          rintro e1 w1 ⟨rfl, hw1⟩
          subst hw1
          generalize sg0 x = z0 at a2 HW s0l
          generalize sg1 y = z1 at a4 HW s1l
          have fg : wr.frozen? ⟨w.heap.size + 1 + 1, k, none⟩ = false := frozen_of_row _ _ _ _ _ (unhide HQ)
          have cg := row_cell (unhide HQ) k (by rw [(unhide HV).1]; omega)
          go_wp2
          go_region
          have hval : ((p : Int) + z0 + q + z1) % 4294967296 = ((wd b k : Nat) : Int) := by rw [unhide HW]; simp
          rw [hval]
          have HN := hide (by
            have h1 := heap_setCell_same wr (w.heap.size + 1 + 1) k _ 124 (wv (wd b k)) (unhide HQ)
            rw [row_set] at h1; exact h1 : (wr.setCell ⟨w.heap.size + 1 + 1, k, none⟩ (wv (wd b k))).heap[w.heap.size + 1 + 1]? = some (.cells (row (vs.set k (wd b k))) 124 (0, 0)))
          have HZN := hide ((heap_setCell_other wr ⟨w.heap.size + 1 + 1, k, none⟩ (w.heap.size + 1) (wv (wd b k)) (by simp)).trans (unhide HY))
          have HKN := hide (((unhide HJ).drewN (nq + 1)).setCell (p := ⟨w.heap.size + 1 + 1, k, none⟩) (by simp; omega) (wv (wd b k)))
          have HMN := hide (⟨by simpa using (unhide HV).1, fun i hi => by
            by_cases hik : i = k
            · subst hik; exact getD_set_same _ _ _ (by rw [(unhide HV).1]; omega)
            · rw [getD_set_other _ _ _ _ hik]; exact (unhide HV).2 i (by omega)⟩ : (vs.set k (wd b k)).length = 64 ∧ ∀ i, i < k + 1 → (vs.set k (wd b k)).getD i 0 = wd b i)
          go_wp2
          go_roundw
          case rel => exact ⟨k + 1, _, by omega, by omega, by go_num, HMN, HN, HZN, HKN⟩
          case measure => simp [intOf]; omega
        · have hlt2 : ¬ (k : Int) < 64 := by omega
          have hk64 : k = 64 := by omega
          subst hk64
          go_wp2_with (first
            | (refine wpList_load_row rfl 124 (.tmp 3) rfl (w.heap.size + 1 + 1) rfl _ (row vs) (0, 0) _ (unhide HQ) Tryd.underlying124 rfl (by rw [row_size, (unhide HV).1]; exact Tryd.size_a64w) ?_)
            | (refine wpList_store_row rfl 124 (.tmp 2) (.tmp 88) rfl (w.heap.size + 1) (row vs) rfl rfl _ (zw 64) (unhide HY) (by rw [row_size, (unhide HV).1]; exact Tryd.size_a64w) (by rw [zw_size, row_size, (unhide HV).1]) (row_one _) ?_))
          refine bodyPost_ret (v := .agg (row vs)) ?_ rfl ⟨vs, rfl, (unhide HV).1, (unhide HV).2, (unhide HJ).setRow (by simp) _⟩
          exact results_cell_row rfl _ _ (w.heap.size + 1) _ (row vs) (0, 0) _ rfl (setRow_heap _ _ _ _ _ _ (unhide HY)) Tryd.underlying124 rfl (by rw [row_size, (unhide HV).1]; exact Tryd.size_a64w)
end Go.Proofs.YtbbjbpjpejekgaaDoor
