import Derived.Test.YtbljofojeagdkaaDoorMRoots
namespace Go.Proofs.YtbljofojeagdkaaDoor
open Go.RowKit Go.BigFrame
set_option linter.unusedVariables false
set_option linter.unusedSimpArgs false

theorem wpList_load_midG {P : Program} {ops : Array Oper} {rest : List Oper} {op : Oper} {a : Act} {w : World} {Q : Exit → Act → World → Prop} (hw : Region.wanted op (yielded ops a.tmps) = true) (ty : TypeId) (x : Operand) (ho : op.op = .load ty x)
    (b o : Nat) (hx : a.eval x = .pointer (some ⟨b, o, none⟩)) (cs : List Value) (d : TypeDesc) (hc : w.rangeAt b o cs)
    (hu : P.underlying ty = some d) (hd : d.isRow = true) (hi : (P.info? ty).map (·.size) = some cs.length)
    (h : wpList P ops Q rest (a.put op.dst (.agg cs.toArray)) w) : wpList P ops Q (op :: rest) a w :=
  wpList_want hw fun _ hK => wp_load_mid ty x ho b o hx cs d hc hu hd hi (hK _ _ h)
def dX : List Nat := 1 :: 2 :: 3 :: 4 :: List.replicate 28 0
def dY : List Nat := 5 :: 6 :: 7 :: 8 :: List.replicate 28 0
def dXY : List Nat := 62 :: 68 :: 92 :: 222 :: List.replicate 28 0
def dYX : List Nat := 40 :: 116 :: 230 :: 72 :: List.replicate 28 0
theorem dX_dg : Dg dX := ⟨rfl, by decide⟩
theorem dY_dg : Dg dY := ⟨rfl, by decide⟩
theorem nod_xy : nodS 4 dX dY = dXY := by
  have e0 : nodeB 4 dX dY = [1, 1, 2, 3, 4, 5, 6, 7, 8] := by decide
  unfold nodS sumD
  rw [e0, if_pos (by decide)]
  unfold hash hashW
  have e : [1, 1, 2, 3, 4, 5, 6, 7, 8] ++ pad [1, 1, 2, 3, 4, 5, 6, 7, 8].length = [1, 1, 2, 3, 4, 5, 6, 7, 8, 128] ++ List.replicate 53 0 ++ [72] := by decide
  rw [e, chain_step (by decide), chain_short (by decide), ← evC_eq]
  decide +kernel
theorem nod_yx : nodS 4 dY dX = dYX := by
  have e0 : nodeB 4 dY dX = [1, 5, 6, 7, 8, 1, 2, 3, 4] := by decide
  unfold nodS sumD
  rw [e0, if_pos (by decide)]
  unfold hash hashW
  have e : [1, 5, 6, 7, 8, 1, 2, 3, 4] ++ pad [1, 5, 6, 7, 8, 1, 2, 3, 4].length = [1, 5, 6, 7, 8, 1, 2, 3, 4, 128] ++ List.replicate 53 0 ++ [72] := by decide
  rw [e, chain_step (by decide), chain_short (by decide), ← evC_eq]
  decide +kernel
theorem spl2 : spl 2 = 1 := by decide
theorem form4 : formedE 4 [dX, dY] = 0 := by decide
theorem aw_root1 : rootE 4 dX 1 2 [dY] = 0 ∧ rootD 4 dX 1 2 [dY] = dYX := by
  have h := rootE_c (z := 4) (leaf := dX) (i := 1) (n := 2) (p := [dY]) form4 (by decide)
  have e : clD 4 dX [dY].reverse 1 2 = some dYX := by
    show clD 4 dX [dY] 1 2 = _
    simp [clD, spl2, nod_yx]
  rw [e] at h
  exact h
theorem aw_root0 : rootE 4 dX 0 2 [dY] = 0 ∧ rootD 4 dX 0 2 [dY] = dXY := by
  have h := rootE_c (z := 4) (leaf := dX) (i := 0) (n := 2) (p := [dY]) form4 (by decide)
  have e : clD 4 dX [dY].reverse 0 2 = some dXY := by
    show clD 4 dX [dY] 0 2 = _
    simp [clD, spl2, nod_xy]
  rw [e] at h
  exact h
theorem aw_roots : rootsE 4 dX 1 2 [dY] = 0 ∧ rootsD 4 dX 1 2 [dY] = (dX, dXY) := by
  have h := rootsE_c (z := 4) (old := dX) (m := 1) (n := 2) (p := [dY]) form4 (by decide)
  have e : twD 4 dX [dY].reverse 1 2 true = some (dX, dXY) := by
    show twD 4 dX [dY] 1 2 true = _
    simp [twD, spl2, nod_xy]
  rw [e] at h
  exact h
theorem aw_inc : incE 4 dX 1 2 [dY] dXY = 10 := by
  unfold incE
  rw [show formedE 4 [dX, dXY, dY] = 0 by decide, aw_root1.1, aw_root1.2]
  decide

set_option maxRecDepth 100000 in
set_option maxHeartbeats 2000000 in
theorem mawake_any (w : World) (hT : Tabs w) :
    Calls Tryd.prog 6 #[] w fun e w' => e = .returned (.bool true) ∧ Kept [] w w' := by
  have HT := hide hT
  clear hT
  have hyl : dY.length = 32 := rfl
  go_enter Tryd.func6, Tryd.ntmps6
  have HA0 := hide (((Kept.refl [] (w.alloc (.cells (zb 32) 23))).alloc (.cells (zb 32) 23)).heap (heap_alloc_new w (.cells (zb 32) 23)) (by simp))
  have HA1 := hide (alloc_at w (.cells (zb 32) 23) (.cells (zb 32) 23))
  obtain ⟨W0, hW0⟩ : ∃ W0, (w.alloc (.cells (zb 32) 23)).alloc (.cells (zb 32) 23) = W0 := ⟨_, rfl⟩
  have HK0 := hide (by rw [← hW0]; exact (((Kept.refl [] w).alloc (.cells (zb 32) 23)).alloc (.cells (zb 32) 23)) : Kept [] w W0)
  rw [hW0] at HA0 HA1
  have hsz : W0.heap.size = w.heap.size + 1 + 1 := by rw [← hW0]; simp
  have HB1 := hide ((setRow_other W0 w.heap.size (w.heap.size + 1) (brow dX) (by omega)).trans (unhide HA1))
  have HX1 := hide ((setRow_other (W0.setRow w.heap.size (brow dX)) (w.heap.size + 1) w.heap.size (brow dY) (by omega)).trans (setRow_heap W0 _ _ (brow dX) _ _ (unhide HA0)))
  have HY1 := hide (setRow_heap (W0.setRow w.heap.size (brow dX)) _ _ (brow dY) _ _ (unhide HB1))
  have HK1 := hide (((unhide HK0).setRow (g := w.heap.size) (Or.inr (by omega)) (brow dX)).setRow (g := w.heap.size + 1) (Or.inr (by omega)) (brow dY))
  go_wp2_with (first
    | (refine wpList_build_as rfl 23 #[(0, .const (.int .u8 1)), (1, .const (.int .u8 2)), (2, .const (.int .u8 3)), (3, .const (.int .u8 4))] rfl (brow dX) (by kernel_rfl) ?_)
    | (refine wpList_build_as rfl 23 #[(0, .const (.int .u8 5)), (1, .const (.int .u8 6)), (2, .const (.int .u8 7)), (3, .const (.int .u8 8))] rfl (brow dY) (by kernel_rfl) ?_)
    | (rw [zb32, hW0]; refine wpList_store_row rfl 23 _ _ rfl w.heap.size (brow dX) rfl rfl _ (zb 32) (unhide HA0) (by kernel_rfl) (by kernel_rfl) (brow_one _) ?_)
    | (refine wpList_store_row rfl 23 _ _ rfl (w.heap.size + 1) (brow dY) rfl rfl _ (zb 32) (unhide HB1) (by kernel_rfl) (by kernel_rfl) (brow_one _) ?_)
    | (refine wpList_load_row rfl 23 _ rfl w.heap.size rfl _ (brow dX) (0, 0) _ (unhide HX1) Tryd.underlying23 rfl (by kernel_rfl) ?_)
    | (refine wpList_load_mid rfl 23 _ rfl (w.heap.size + 1) 0 rfl (dY.map u8) _ (range_row (unhide HY1)) Tryd.underlying23 rfl (by kernel_rfl) ?_))
  rw [zb32, one_dig dY rfl]
  obtain ⟨W1, hW1⟩ : ∃ W1, (W0.setRow w.heap.size (brow dX)).setRow (w.heap.size + 1) (brow dY) = W1 := ⟨_, rfl⟩
  have hs1 : w.heap.size + 1 + 1 = W1.heap.size := by rw [← hW1, ← hsz]; simp
  rw [hW1] at HX1 HY1 HK1
  rw [hW1, hs1]
  clear hW1 hW0 HA0 HA1 HB1 HK0
  have kc2 := (Kept.refl [] W1).alloc (.cells (brow dY) 23)
  refine Calls.mono (rootOf_any 4 dX 1 2 _ [dY] _ (by decide) dX_dg (by decide) (by decide) (RdD.one (heap_alloc_new W1 _) dY_dg) ((unhide HT).k ((unhide HK1).trans kc2 (by simp)))) ?_
  rintro e w2 ⟨rfl, k2⟩
  rw [aw_root1.1, aw_root1.2]
  have kk2 := kc2.trans k2 (by simp)
  have HK2 := hide ((unhide HK1).trans kk2 (by simp))
  have HX2 := hide (kk2.heap (unhide HX1) (by simp))
  have HY2 := hide (kk2.heap (unhide HY1) (by simp))
  clear kc2 k2 kk2 HX1 HY1
  have kd := ((Kept.refl [] w2).alloc (.cells (zb 32) 23)).setRow (g := w2.heap.size) (Or.inr (Nat.le_refl _)) (brow dYX)
  have HDd := hide (setRow_heap (w2.alloc (.cells (zb 32) 23)) w2.heap.size (zb 32) (brow dYX) 23 (0, 0) (heap_alloc_new _ _))
  have HX3 := hide (kd.heap (unhide HX2) (by simp))
  have HY3 := hide (kd.heap (unhide HY2) (by simp))
  have HK3 := hide ((unhide HK2).trans kd (by simp))
  clear kd HX2 HY2
  go_wp2_with (first
    | (rw [zb32]; refine wpList_store_row rfl 23 _ _ rfl w2.heap.size (brow dYX) rfl rfl _ (zb 32) (heap_alloc_new _ _) (by kernel_rfl) (by kernel_rfl) (brow_one _) ?_)
    | (refine wpList_load_row rfl 23 _ rfl w.heap.size rfl _ (brow dX) (0, 0) _ (unhide HX3) Tryd.underlying23 rfl (by kernel_rfl) ?_)
    | (refine wpList_load_mid rfl 23 _ rfl (w.heap.size + 1) 0 rfl (dY.map u8) _ (range_row (unhide HY3)) Tryd.underlying23 rfl (by kernel_rfl) ?_))
  rw [zb32, one_dig dY rfl]
  obtain ⟨W3, hW3⟩ : ∃ W3, (w2.alloc (.cells (zb 32) 23)).setRow w2.heap.size (brow dYX) = W3 := ⟨_, rfl⟩
  have hs3 : w2.heap.size + 1 = W3.heap.size := by rw [← hW3]; simp
  rw [hW3] at HX3 HY3 HK3 HDd
  rw [hW3, hs3]
  clear hW3
  have kc4 := (Kept.refl [] W3).alloc (.cells (brow dY) 23)
  refine Calls.mono (rootsOf_any 4 1 2 dX _ [dY] _ (by decide) dX_dg (by decide) (by decide) (RdD.one (heap_alloc_new W3 _) dY_dg) ((unhide HT).k ((unhide HK3).trans kc4 (by simp)))) ?_
  rintro e w4 ⟨rfl, k4⟩
  rw [aw_roots.1, aw_roots.2]
  have kk4 := kc4.trans k4 (by simp)
  have HK4 := hide ((unhide HK3).trans kk4 (by simp))
  have HX4 := hide (kk4.heap (unhide HX3) (by simp))
  have HY4 := hide (kk4.heap (unhide HY3) (by simp))
  have HD4 := hide (kk4.heap (unhide HDd) (by simp))
  clear kc4 k4 kk4 HX3 HY3 HDd
  have ka := (((Kept.refl [] w4).alloc (.cells (zb 32) 23)).alloc (.cells (zb 32) 23))
  have kab := (ka.setRow (g := w4.heap.size) (Or.inr (Nat.le_refl _)) (brow dX)).setRow (g := w4.heap.size + 1) (Or.inr (by omega)) (brow dXY)
  have HA0 := hide (((Kept.refl [] (w4.alloc (.cells (zb 32) 23))).alloc (.cells (zb 32) 23)).heap (heap_alloc_new w4 (.cells (zb 32) 23)) (by simp))
  have HB0 := hide ((setRow_other ((w4.alloc (.cells (zb 32) 23)).alloc (.cells (zb 32) 23)) w4.heap.size (w4.heap.size + 1) (brow dX) (by omega)).trans (alloc_at w4 (.cells (zb 32) 23) (.cells (zb 32) 23)))
  have HA5 := hide ((setRow_other (((w4.alloc (.cells (zb 32) 23)).alloc (.cells (zb 32) 23)).setRow w4.heap.size (brow dX)) (w4.heap.size + 1) w4.heap.size (brow dXY) (by omega)).trans (setRow_heap _ _ _ (brow dX) _ _ (unhide HA0)))
  have HB5 := hide (setRow_heap (((w4.alloc (.cells (zb 32) 23)).alloc (.cells (zb 32) 23)).setRow w4.heap.size (brow dX)) _ _ (brow dXY) _ _ (unhide HB0))
  have HX5 := hide (kab.heap (unhide HX4) (by simp))
  have HY5 := hide (kab.heap (unhide HY4) (by simp))
  have HD5 := hide (kab.heap (unhide HD4) (by simp))
  have HK5 := hide ((unhide HK4).trans kab (by simp))
  clear ka kab HX4 HY4 HD4
  go_wp2_with (first
    | (rw [zb32]; refine wpList_store_row rfl 23 _ _ rfl w4.heap.size (brow dX) rfl rfl _ (zb 32) (unhide HA0) (by kernel_rfl) (by kernel_rfl) (brow_one _) ?_)
    | (refine wpList_store_row rfl 23 _ _ rfl (w4.heap.size + 1) (brow dXY) rfl rfl _ (zb 32) (unhide HB0) (by kernel_rfl) (by kernel_rfl) (brow_one _) ?_)
    | (refine wpList_load_row rfl 23 _ rfl w.heap.size rfl _ (brow dX) (0, 0) _ (unhide HX5) Tryd.underlying23 rfl (by kernel_rfl) ?_)
    | (refine wpList_load_mid rfl 23 _ rfl (w.heap.size + 1) 0 rfl (dY.map u8) _ (range_row (unhide HY5)) Tryd.underlying23 rfl (by kernel_rfl) ?_))
  rw [zb32, one_dig dY rfl]
  obtain ⟨W5, hW5⟩ : ∃ W5, (((w4.alloc (.cells (zb 32) 23)).alloc (.cells (zb 32) 23)).setRow w4.heap.size (brow dX)).setRow (w4.heap.size + 1) (brow dXY) = W5 := ⟨_, rfl⟩
  have hs5 : w4.heap.size + 1 + 1 = W5.heap.size := by rw [← hW5]; simp
  rw [hW5] at HX5 HY5 HK5 HD5 HA5 HB5
  rw [hW5, hs5]
  clear hW5 HA0 HB0
  have kc6 := (Kept.refl [] W5).alloc (.cells (brow dY) 23)
  refine Calls.mono (docRootOf_any 4 dX 1 2 _ [dY] _ (by decide) dX_dg (by decide) (by decide) (RdD.one (heap_alloc_new W5 _) dY_dg) (by decide)) ?_
  rintro e w6 ⟨rfl, k6⟩
  rw [aw_root1.1, aw_root1.2]
  have kk6 := kc6.trans k6 (by simp)
  have HK6 := hide ((unhide HK5).trans kk6 (by simp))
  have HX6 := hide (kk6.heap (unhide HX5) (by simp))
  have HY6 := hide (kk6.heap (unhide HY5) (by simp))
  have HD6 := hide (kk6.heap (unhide HD5) (by simp))
  have HA6 := hide (kk6.heap (unhide HA5) (by simp))
  have HB6 := hide (kk6.heap (unhide HB5) (by simp))
  clear kc6 k6 kk6 HX5 HY5 HD5 HA5 HB5
  have kk7 := ((Kept.refl [] w6).alloc (.cells (zb 32) 23)).setRow (g := w6.heap.size) (Or.inr (Nat.le_refl _)) (brow dYX)
  have HS7 := hide (setRow_heap (w6.alloc (.cells (zb 32) 23)) w6.heap.size (zb 32) (brow dYX) 23 (0, 0) (heap_alloc_new _ _))
  have HK7 := hide ((unhide HK6).trans kk7 (by simp))
  have HX7 := hide (kk7.heap (unhide HX6) (by simp))
  have HY7 := hide (kk7.heap (unhide HY6) (by simp))
  have HD7 := hide (kk7.heap (unhide HD6) (by simp))
  have HA7 := hide (kk7.heap (unhide HA6) (by simp))
  have HB7 := hide (kk7.heap (unhide HB6) (by simp))
  clear kk7 HX6 HY6 HD6 HA6 HB6
  go_wp2_with (first
    | (rw [zb32]; refine wpList_store_row rfl 23 _ _ rfl w6.heap.size (brow dYX) rfl rfl _ (zb 32) (heap_alloc_new _ _) (by kernel_rfl) (by kernel_rfl) (brow_one _) ?_)
    | (refine wpList_load_row rfl 23 _ rfl w.heap.size rfl _ (brow dX) (0, 0) _ (unhide HX7) Tryd.underlying23 rfl (by kernel_rfl) ?_)
    | (refine wpList_load_mid rfl 23 _ rfl (w.heap.size + 1) 0 rfl (dY.map u8) _ (range_row (unhide HY7)) Tryd.underlying23 rfl (by kernel_rfl) ?_))
  rw [zb32, one_dig dY rfl]
  obtain ⟨W7, hW7⟩ : ∃ W7, (w6.alloc (.cells (zb 32) 23)).setRow w6.heap.size (brow dYX) = W7 := ⟨_, rfl⟩
  have hs7 : w6.heap.size + 1 = W7.heap.size := by rw [← hW7]; simp
  rw [hW7] at HK7 HX7 HY7 HD7 HA7 HB7 HS7
  rw [hW7, hs7]
  clear hW7
  have kc8 := (Kept.refl [] W7).alloc (.cells (brow dY) 23)
  refine Calls.mono (docRootOf_any 4 dX 0 2 _ [dY] _ (by decide) dX_dg (by decide) (by decide) (RdD.one (heap_alloc_new W7 _) dY_dg) (by decide)) ?_
  rintro e w8 ⟨rfl, k8⟩
  rw [aw_root0.1, aw_root0.2]
  have kk8 := kc8.trans k8 (by simp)
  have HK8 := hide ((unhide HK7).trans kk8 (by simp))
  have HX8 := hide (kk8.heap (unhide HX7) (by simp))
  have HY8 := hide (kk8.heap (unhide HY7) (by simp))
  have HD8 := hide (kk8.heap (unhide HD7) (by simp))
  have HA8 := hide (kk8.heap (unhide HA7) (by simp))
  have HB8 := hide (kk8.heap (unhide HB7) (by simp))
  have HS8 := hide (kk8.heap (unhide HS7) (by simp))
  clear kc8 k8 kk8 HX7 HY7 HD7 HA7 HB7 HS7
  have kk9 := ((Kept.refl [] w8).alloc (.cells (zb 32) 23)).setRow (g := w8.heap.size) (Or.inr (Nat.le_refl _)) (brow dXY)
  have HT9 := hide (setRow_heap (w8.alloc (.cells (zb 32) 23)) w8.heap.size (zb 32) (brow dXY) 23 (0, 0) (heap_alloc_new _ _))
  have HK9 := hide ((unhide HK8).trans kk9 (by simp))
  have HX9 := hide (kk9.heap (unhide HX8) (by simp))
  have HY9 := hide (kk9.heap (unhide HY8) (by simp))
  have HD9 := hide (kk9.heap (unhide HD8) (by simp))
  have HA9 := hide (kk9.heap (unhide HA8) (by simp))
  have HB9 := hide (kk9.heap (unhide HB8) (by simp))
  have HS9 := hide (kk9.heap (unhide HS8) (by simp))
  clear kk9 HX8 HY8 HD8 HA8 HB8 HS8
  have hq1 : ∀ W, (Op.equalIn 10000 23 (.agg (brow dYX)) (.agg (brow dYX))).run Tryd.prog W = .ok true W := fun W => by have := dig_eq W dYX dYX rfl rfl; rwa [decide_eq_true rfl] at this
  have hq2 : ∀ W, (Op.equalIn 10000 23 (.agg (brow dX)) (.agg (brow dX))).run Tryd.prog W = .ok true W := fun W => by have := dig_eq W dX dX rfl rfl; rwa [decide_eq_true rfl] at this
  have hq3 : ∀ W, (Op.equalIn 10000 23 (.agg (brow dXY)) (.agg (brow dXY))).run Tryd.prog W = .ok true W := fun W => by have := dig_eq W dXY dXY rfl rfl; rwa [decide_eq_true rfl] at this
  have hq4 : ∀ W, (Op.equalIn 10000 23 (.agg (brow dYX)) (.agg (zb 32))).run Tryd.prog W = .ok false W := fun W => by have := dig_eq W dYX zD rfl rfl; rw [decide_eq_false (by decide)] at this; exact this
  rw [← zb32] at hq4
  have HT9' := hide (((Kept.refl [] ((w8.alloc (.cells (zb 32) 23)).setRow w8.heap.size (brow dXY))).alloc (.cells (brow dY) 23)).heap (unhide HT9) (by simp))
  go_wp2_with (first
    | (rw [zb32]; refine wpList_store_row rfl 23 _ _ rfl w8.heap.size (brow dXY) rfl rfl _ (zb 32) (heap_alloc_new _ _) (by kernel_rfl) (by kernel_rfl) (brow_one _) ?_)
    | (refine wpList_load_rowG rfl 23 (.tmp 3) rfl w2.heap.size rfl _ (brow dYX) (0, 0) _ (unhide HD9) Tryd.underlying23 rfl (by kernel_rfl) ?_)
    | (refine wpList_load_rowG rfl 23 (.tmp 8) rfl w6.heap.size rfl _ (brow dYX) (0, 0) _ (unhide HS9) Tryd.underlying23 rfl (by kernel_rfl) ?_)
    | (refine wpList_load_rowG rfl 23 (.tmp 5) rfl w4.heap.size rfl _ (brow dX) (0, 0) _ (unhide HA9) Tryd.underlying23 rfl (by kernel_rfl) ?_)
    | (refine wpList_load_rowG rfl 23 (.tmp 1) rfl w.heap.size rfl _ (brow dX) (0, 0) _ (unhide HX9) Tryd.underlying23 rfl (by kernel_rfl) ?_)
    | (refine wpList_load_rowG rfl 23 (.tmp 6) rfl (w4.heap.size + 1) rfl _ (brow dXY) (0, 0) _ (unhide HB9) Tryd.underlying23 rfl (by kernel_rfl) ?_)
    | (refine wpList_load_rowG rfl 23 (.tmp 10) rfl w8.heap.size rfl _ (brow dXY) (0, 0) _ (unhide HT9) Tryd.underlying23 rfl (by kernel_rfl) ?_)
    | (rw [zb32, one_dig dY rfl]; refine wpList_load_rowG rfl 23 (.tmp 10) rfl w8.heap.size rfl _ (brow dXY) (0, 0) _ (unhide HT9') Tryd.underlying23 rfl (by kernel_rfl) ?_)
    | (refine wpList_load_midG rfl 23 (.tmp 2) rfl (w.heap.size + 1) 0 rfl (dY.map u8) _ (range_row (unhide HY9)) Tryd.underlying23 rfl (by kernel_rfl) ?_))
  clear hq1 hq2 hq3 hq4 HT9'
  obtain ⟨W9, hW9⟩ : ∃ W9, (w8.alloc (.cells (zb 32) 23)).setRow w8.heap.size (brow dXY) = W9 := ⟨_, rfl⟩
  have hs9 : w8.heap.size + 1 = W9.heap.size := by rw [← hW9]; simp
  rw [hW9] at HK9
  rw [hW9, hs9]
  clear hW9 HX9 HY9 HD9 HA9 HB9 HS9 HT9
  have kc := (Kept.refl [] W9).alloc (.cells (brow dY) 23)
  refine Calls.mono (inclusion_any 4 dX 1 2 _ [dY] dXY _ (by decide) dX_dg ⟨rfl, by decide⟩ (by decide) (by decide) (RdD.one (heap_alloc_new W9 _) dY_dg) ((unhide HT).k ((unhide HK9).trans kc (by simp)))) ?_
  rintro e w10 ⟨rfl, k10⟩
  have HK10 := hide (((unhide HK9).trans kc (by simp)).trans k10 (by simp))
  rw [aw_inc]
  clear k10 kc
  go_wp2
  go_ret
  exact ⟨rfl, unhide HK10⟩
end Go.Proofs.YtbljofojeagdkaaDoor
