import Derived.Test.YtdcfkjkmpgagdaaDoorDWr
namespace Go.Proofs.YtdcfkjkmpgagdaaDoor
open Go.RowKit Go.BigFrame
set_option linter.unusedVariables false
set_option linter.unusedSimpArgs false

theorem RdL.nil (w : World) : RdL w (.slice none 0 0) [] := ⟨none, 0, 0, [], rfl, rfl, rfl, Nat.le_refl _, by omega, fun h => by omega, fun i h => by omega⟩
/-- One list. -/
theorem RdL.one {w : World} {g : Nat} {v : Value} {p : List Nat} {t : TypeId} {fr : Nat × Nat} (h : w.heap[g]? = some (.cells #[v] t fr)) (hr : Rd w v p) : RdL w (.slice (some ⟨g, 0, none⟩) 1 1) [p] := by
  refine ⟨_, 1, 1, [v], rfl, rfl, rfl, Nat.le_refl _, by omega, fun _ => ⟨g, 0, rfl, fun i hi => ?_⟩, fun i hi => ?_⟩
  · have : i = 0 := by omega
    subst this
    rw [cell_of_row _ _ _ _ _ _ h]; rfl
  · have : i = 0 := by omega
    subst this
    exact hr

set_option maxRecDepth 100000 in
set_option maxHeartbeats 1000000 in
theorem nomap_any (z : Int) (w : World) (hz : -9223372036854775808 ≤ z ∧ z ≤ 9223372036854775807) (hw : widthB z = true) (hT : Tabs w) :
    Calls Tryd.prog 8 #[.int .i64 z] w fun e w' => e = .returned (.tuple #[.agg (brow (cutL z.toNat (hash [5]))), .int .i64 0]) ∧ Kept [] w w' := by
  have HT := hide hT
  clear hT
  have hcl := cutL_len z.toNat (hash [5]) (by have h9 : 1 ≤ z ∧ z ≤ 32 := (by simpa [widthB] using hw); omega) (hash_len [5])
  go_enter Tryd.func8, Tryd.ntmps8
  go_wp2_with fail
  rw [zb32]
  refine Calls.mono (tagged_any 5 _ [] _ (by decide) (RdL.nil _) (by simp)) ?_
  rintro e w1 ⟨g, rfl, hg, h1, k1⟩
  have HR1 := hide (rd_fresh h1 (by simp) (by simp))
  have HZ1 := hide (k1.heap (heap_alloc_new w (.cells (zb 32) 27)) (by simp))
  have HK1 := hide (((Kept.refl [] w).alloc (.cells (zb 32) 27)).trans k1 (by simp))
  clear h1 k1
  go_wp2_with fail
  refine Calls.mono (dsum_any z _ [[5]] _ hz (RdL.one (heap_alloc_new _ _) ((unhide HR1).old ((Kept.refl [] w1).alloc _) (by simp))) (by simp) ((unhide HT).k ((unhide HK1).alloc _)) hw) ?_
  rintro e w2 ⟨rfl, k2⟩
  rw [show ([[5]] : List (List Nat)).flatten = [5] from rfl]
  have HZ2 := hide (k2.heap ((Kept.refl [] w1).alloc (.cells #[.slice (some ⟨g, 0, none⟩) 1 1] 25) |>.heap (unhide HZ1) (by simp)) (by simp))
  have HK2 := hide (((unhide HK1).alloc _).trans k2 (by simp))
  clear k2
  go_wp2_with (refine wpList_store_row rfl 27 _ _ rfl w.heap.size (brow (cutL z.toNat (hash [5]))) rfl rfl _ (zb 32) (unhide HZ2) (by rw [brow_size, hcl]; exact Tryd.size_dig) (by rw [zb_size, brow_size, hcl]) (brow_one _) ?_)
  refine bodyPost_ret (v := .tuple #[.agg (brow (cutL z.toNat (hash [5]))), .int .i64 0]) ?_ rfl ⟨rfl, (unhide HK2).setRow (by simp) _⟩
  exact results_cell_tmp rfl _ _ w.heap.size _ (brow (cutL z.toNat (hash [5]))) (0, 0) _ rfl (setRow_heap _ _ _ _ _ _ (unhide HZ2)) Tryd.underlying27 rfl (by rw [brow_size, hcl]; exact Tryd.size_dig) _ rfl

def dN : List Nat := 231 :: List.replicate 31 0
theorem dN_len : dN.length = 32 := rfl
theorem lit_dN : (#[.int .u8 231, .int .u8 0, .int .u8 0, .int .u8 0, .int .u8 0, .int .u8 0, .int .u8 0, .int .u8 0, .int .u8 0, .int .u8 0, .int .u8 0, .int .u8 0, .int .u8 0, .int .u8 0, .int .u8 0, .int .u8 0, .int .u8 0, .int .u8 0, .int .u8 0, .int .u8 0, .int .u8 0, .int .u8 0, .int .u8 0, .int .u8 0, .int .u8 0, .int .u8 0, .int .u8 0, .int .u8 0, .int .u8 0, .int .u8 0, .int .u8 0, .int .u8 0] : Array Value) = brow dN := rfl
theorem nomap_hash : cutL 1 (hash [5]) = dN := by
  unfold hash hashW
  have e : [5] ++ pad [5].length = [5, 128] ++ List.replicate 61 0 ++ [8] := by decide
  rw [e, chain_step (by decide), chain_short (by decide), ← evC_eq]
  decide +kernel
abbrev iv (n : Nat) : Value := .int .i64 (n : Int)
theorem lit_errs : (#[.int .i64 0, .int .i64 1, .int .i64 2, .int .i64 3, .int .i64 4, .int .i64 5, .int .i64 6, .int .i64 7, .int .i64 8, .int .i64 9, .int .i64 10, .int .i64 11, .int .i64 12, .int .i64 13, .int .i64 14] : Array Value) = ((List.range 15).map iv).toArray := rfl
def limN : List Nat := [32, 64, 256, 64, 65535, 4096, 1048576, 64, 64, 128, 1000, 100000, 400]
theorem lit_lim : (#[.int .i64 32, .int .i64 64, .int .i64 256, .int .i64 64, .int .i64 65535, .int .i64 4096, .int .i64 1048576, .int .i64 64, .int .i64 64, .int .i64 128, .int .i64 1000, .int .i64 100000, .int .i64 400] : Array Value) = (limN.map iv).toArray := rfl
def kinN : List Nat := [1, 2, 1, 2, 3, 1, 2, 3, 4, 5, 6, 7, 1, 2, 3, 4, 5, 6, 7, 8, 9, 10, 11]
theorem lit_kin : (#[.int .u8 1, .int .u8 2, .int .u8 1, .int .u8 2, .int .u8 3, .int .u8 1, .int .u8 2, .int .u8 3, .int .u8 4, .int .u8 5, .int .u8 6, .int .u8 7, .int .u8 1, .int .u8 2, .int .u8 3, .int .u8 4, .int .u8 5, .int .u8 6, .int .u8 7, .int .u8 8, .int .u8 9, .int .u8 10, .int .u8 11] : Array Value) = (kinN.map u8).toArray := rfl
theorem cell_map {w : World} {g : Nat} {l : List Nat} {f : Nat → Value} {t : TypeId} {fr : Nat × Nat} (h : w.heap[g]? = some (.cells (l.map f).toArray t fr)) (i : Nat) (hi : i < l.length) : w.cell? ⟨g, i, none⟩ = some (f (l.getD i 0)) := by
  rw [cell_of_row _ _ _ _ _ _ h]; simp [List.getD_eq_getElem?_getD, hi]

set_option maxRecDepth 100000 in
set_option maxHeartbeats 2000000 in
theorem digestNames_walk (w : World) (hT : Tabs w) :
    Calls Tryd.prog 3 #[] w fun e w' => e = .returned (.bool true) ∧ Below w.heap.size w w' := by
  have HT := hide hT
  clear hT
  go_enter Tryd.func3, Tryd.ntmps3
  go_wp2_with fail
  rw [lit_errs]
  have HE := hide (heap_alloc_new w (.cells ((List.range 15).map iv).toArray 22))
  have HK1 := hide ((Kept.refl [] w).alloc (.cells ((List.range 15).map iv).toArray 22))
  obtain ⟨W1, hW1⟩ : ∃ W, w.alloc (.cells ((List.range 15).map iv).toArray 22) = W := ⟨_, rfl⟩
  rw [hW1] at HE HK1 ⊢
  clear hW1
  go_loopw [15] (fun t15 wr => ∃ (i n : Nat), i ≤ 15 ∧ t15 = .int .i64 i ∧ wr = W1.drewN n) (fun t _ => 15 - (intOf t).toNat)
  case atStart => exact ⟨0, 0, by omega, rfl, rfl⟩
  case round =>
    obtain ⟨i, n, hi, rfl, rfl⟩ := hrel
    by_cases hlt : i < 15
    · have hlt' : (i : Int) < 15 := by omega
      have ci : W1.cell? ⟨w.heap.size, i, none⟩ = some (.int .i64 (i : Int)) := by
        have := cell_map (unhide HE) i (by simpa using hlt)
        rw [this]; simp [List.getD_eq_getElem?_getD, List.getElem?_range hlt]
      go_wp2
      refine ⟨⟨i + 1, n, by omega, by go_num, rfl⟩, ?_⟩
      simp [intOf]; omega
    · have hlt' : ¬ (i : Int) < 15 := by omega
      go_wp2_with fail
      rw [lit_lim]
      have HL1 := hide (heap_alloc2_old (W1.drewN n) (.cells (limN.map iv).toArray 3) (.cells (limN.map iv).toArray 3) : (((W1.drewN n).alloc (.cells (limN.map iv).toArray 3)).alloc (.cells (limN.map iv).toArray 3)).heap[W1.heap.size]? = some (.cells (limN.map iv).toArray 3 (0, 0)))
      have HL2 := hide (heap_alloc2_new (W1.drewN n) (.cells (limN.map iv).toArray 3) (.cells (limN.map iv).toArray 3) : (((W1.drewN n).alloc (.cells (limN.map iv).toArray 3)).alloc (.cells (limN.map iv).toArray 3)).heap[W1.heap.size + 1]? = some (.cells (limN.map iv).toArray 3 (0, 0)))
      have HK2 := hide ((((unhide HK1).drewN n).alloc (.cells (limN.map iv).toArray 3)).alloc (.cells (limN.map iv).toArray 3))
      obtain ⟨W2, hW2⟩ : ∃ W, ((W1.drewN n).alloc (.cells (limN.map iv).toArray 3)).alloc (.cells (limN.map iv).toArray 3) = W := ⟨_, rfl⟩
      rw [hW2] at HL1 HL2 HK2
      rw [hW2]
      clear hW2
      have hlim : limN.length = 13 := rfl
      go_loopw [28] (fun t28 wr => ∃ (i n : Nat), i ≤ 13 ∧ t28 = .int .i64 i ∧ wr = W2.drewN n) (fun t _ => 13 - (intOf t).toNat)
      case atStart => exact ⟨0, 0, by omega, rfl, rfl⟩
      case round =>
        obtain ⟨i2, n2, hi2, rfl, rfl⟩ := hrel
        by_cases hlt2 : i2 < 13
        · have hlt2' : (i2 : Int) < 13 := by omega
          have c1 := cell_map (unhide HL1) i2 (by omega)
          have c2 := cell_map (unhide HL2) i2 (by omega)
          generalize limN.getD i2 0 = x at c1 c2
          have c1' : W2.cell? ⟨W1.heap.size, i2, none⟩ = some (.int .i64 (x : Int)) := c1
          have c2' : W2.cell? ⟨W1.heap.size + 1, i2, none⟩ = some (.int .i64 (x : Int)) := c2
          clear c1 c2
          go_wp2_with fail
          go_quiet (fail)
          go_wp2
          refine ⟨⟨i2 + 1, _, by omega, by go_num, rfl⟩, ?_⟩
          simp [intOf]; omega
        · have hlt2' : ¬ (i2 : Int) < 13 := by omega
          go_wp2_with fail
          rw [lit_kin]
          have HN1 := hide (heap_alloc2_old (W2.drewN n2) (.cells (kinN.map Go.Proofs.YtdcfkjkmpgagdaaDoor.u8).toArray 5) (.cells (kinN.map Go.Proofs.YtdcfkjkmpgagdaaDoor.u8).toArray 5) : (((W2.drewN n2).alloc (.cells (kinN.map Go.Proofs.YtdcfkjkmpgagdaaDoor.u8).toArray 5)).alloc (.cells (kinN.map Go.Proofs.YtdcfkjkmpgagdaaDoor.u8).toArray 5)).heap[W2.heap.size]? = some (.cells (kinN.map Go.Proofs.YtdcfkjkmpgagdaaDoor.u8).toArray 5 (0, 0)))
          have HN2 := hide (heap_alloc2_new (W2.drewN n2) (.cells (kinN.map Go.Proofs.YtdcfkjkmpgagdaaDoor.u8).toArray 5) (.cells (kinN.map Go.Proofs.YtdcfkjkmpgagdaaDoor.u8).toArray 5) : (((W2.drewN n2).alloc (.cells (kinN.map Go.Proofs.YtdcfkjkmpgagdaaDoor.u8).toArray 5)).alloc (.cells (kinN.map Go.Proofs.YtdcfkjkmpgagdaaDoor.u8).toArray 5)).heap[W2.heap.size + 1]? = some (.cells (kinN.map Go.Proofs.YtdcfkjkmpgagdaaDoor.u8).toArray 5 (0, 0)))
          have HK3 := hide ((((unhide HK2).drewN n2).alloc (.cells (kinN.map Go.Proofs.YtdcfkjkmpgagdaaDoor.u8).toArray 5)).alloc (.cells (kinN.map Go.Proofs.YtdcfkjkmpgagdaaDoor.u8).toArray 5))
          obtain ⟨W3, hW3⟩ : ∃ W, ((W2.drewN n2).alloc (.cells (kinN.map Go.Proofs.YtdcfkjkmpgagdaaDoor.u8).toArray 5)).alloc (.cells (kinN.map Go.Proofs.YtdcfkjkmpgagdaaDoor.u8).toArray 5) = W := ⟨_, rfl⟩
          rw [hW3] at HN1 HN2 HK3
          rw [hW3]
          clear hW3
          have hkin : kinN.length = 23 := rfl
          go_loopw [45] (fun t45 wr => ∃ (i n : Nat), i ≤ 23 ∧ t45 = .int .i64 i ∧ wr = W3.drewN n) (fun t _ => 23 - (intOf t).toNat)
          case atStart => exact ⟨0, 0, by omega, rfl, rfl⟩
          case round =>
            obtain ⟨i3, n3, hi3, rfl, rfl⟩ := hrel
            by_cases hlt3 : i3 < 23
            · have hlt3' : (i3 : Int) < 23 := by omega
              have c1 := cell_map (unhide HN1) i3 (by omega)
              have c2 := cell_map (unhide HN2) i3 (by omega)
              generalize kinN.getD i3 0 = x at c1 c2
              have c1' : W3.cell? ⟨W2.heap.size, i3, none⟩ = some (.int .u8 (x : Int)) := c1
              have c2' : W3.cell? ⟨W2.heap.size + 1, i3, none⟩ = some (.int .u8 (x : Int)) := c2
              clear c1 c2
              go_wp2_with fail
              go_quiet (fail)
              go_wp2
              refine ⟨⟨i3 + 1, _, by omega, by go_num, rfl⟩, ?_⟩
              simp [intOf]; omega
            · have hlt3' : ¬ (i3 : Int) < 23 := by omega
              go_wp2_with fail
              refine Calls.mono (nomap_any 1 _ (by decide) rfl ((unhide HT).k ((unhide HK3).drewN n3))) ?_
              rintro e w5 ⟨rfl, k5⟩
              have HK5 := hide (((unhide HK3).drewN n3).trans k5 (by simp))
              clear k5
              rw [show cutL (Int.toNat 1) (hash [5]) = dN from nomap_hash]
              have hqd : ∀ W, (Op.equalIn 10000 27 (.agg (brow dN)) (.agg #[.int .u8 231, .int .u8 0, .int .u8 0, .int .u8 0, .int .u8 0, .int .u8 0, .int .u8 0, .int .u8 0, .int .u8 0, .int .u8 0, .int .u8 0, .int .u8 0, .int .u8 0, .int .u8 0, .int .u8 0, .int .u8 0, .int .u8 0, .int .u8 0, .int .u8 0, .int .u8 0, .int .u8 0, .int .u8 0, .int .u8 0, .int .u8 0, .int .u8 0, .int .u8 0, .int .u8 0, .int .u8 0, .int .u8 0, .int .u8 0, .int .u8 0, .int .u8 0])).run Tryd.prog W = .ok true W := by
                intro W
                rw [lit_dN]
                have := dig_eq W dN dN dN_len dN_len
                rw [decide_eq_true rfl] at this
                exact this
              have HZZ := hide (by rw [brow_size]; exact Tryd.size_dig : (Tryd.prog.info? 27).map (·.size) = some (brow dN).size)
              have HR5 := hide (setRow_heap (w5.alloc (.cells (zb 32) 27)) w5.heap.size (zb 32) (brow dN) 27 (0, 0) (heap_alloc_new _ _))
              go_wp2_with (first
                | (rw [zb32]; refine wpList_store_row rfl 27 _ _ rfl w5.heap.size (brow dN) rfl rfl _ (zb 32) (heap_alloc_new _ _) (unhide HZZ) (by rw [zb_size, brow_size]; rfl) (brow_one _) ?_)
                | (refine wpList_load_rowG rfl 27 (.tmp 10) rfl w5.heap.size rfl _ (brow dN) (0, 0) _ (unhide HR5) Tryd.underlying27 rfl (unhide HZZ) ?_))
              go_ret
              exact ⟨rfl, (((unhide HK5).alloc _).setRow (Or.inr (unhide HK5).size) _).below (Nat.le_refl _) (by simp)⟩
end Go.Proofs.YtdcfkjkmpgagdaaDoor
