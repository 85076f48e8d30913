import Derived.Test.YtecadmldnjlibaaDoorTopB
import Derived.Test.YtecadmldnjlibaaDoorQKeep
import Derived.Deep.MidRow
import Derived.Test.YtecadmldnjlibaaDoorTopA
import Derived.Test.YtecadmldnjlibaaDoorRowz
import Derived.Deep.RegionHeld3
namespace Go.Proofs.YtecadmldnjlibaaDoor
open Go.RowKit Go.BigFrame
set_option linter.unusedVariables false
set_option linter.unusedSimpArgs false

/-- The digest of no leaves. -/
def noT (z : Int) : List Nat := sumD z []
theorem noT_dg (z : Int) : Dg (noT z) := by
  unfold noT sumD
  by_cases h : widthB z = true
  · rw [if_pos h]
    have hw := width_le h
    exact ⟨cutL_len z.toNat (hash []) (by omega) (hash_len []), cutL_byte z.toNat (hash []) (hash_byte [])⟩
  · rw [if_neg h]
    exact ⟨by simp, by simp⟩
theorem noT_form {z : Int} (hw : widthB z = true) : formB z (noT z) = true := by
  unfold noT sumD
  rw [if_pos hw]
  have hz := width_le hw
  unfold formB
  simp only [hw, Bool.true_and, decide_eq_true_eq]
  exact cutL_cutL _ _ (by rw [hash_len]; omega)
theorem rngD_self (z : Int) (no : List Nat) (L : List (List Nat)) (lo : Nat) : rngD z no L lo lo = no := by
  unfold rngD; rw [Nat.sub_self, List.take_zero]; exact logT_nil z no

theorem alloc2_at (w : World) (a b : Obj) : ((w.alloc a).alloc b).heap[w.heap.size + 1]? = some b := by
  have := heap_alloc_new (w.alloc a) b
  simpa using this

set_option maxRecDepth 100000 in
set_option maxHeartbeats 400000 in
theorem rangeT_nil (lo hi : Int) (w : World) :
    Calls Tryd.prog 43 #[.pointer none, .int .u64 lo, .int .u64 hi] w fun e w' => e = .returned (.tuple #[.agg (zb 32), .int .i64 5]) ∧ Kept [] w w' := by
  have HZ := hide (alloc2_at w (.cells #[.pointer none] 24) (.cells (zb 32) 41))
  have HK := hide ((((Kept.refl [] w).alloc (.cells #[.pointer none] 24)).alloc (.cells (zb 32) 41)).setRow (g := w.heap.size + 1) (Or.inr (by omega)) (zb 32))
  go_enter Tryd.func43, Tryd.ntmps43
  go_wp2_with (rw [zb32]; refine wpList_store_row rfl 41 (.tmp 6) _ rfl (w.heap.size + 1) (zb 32) rfl rfl _ (zb 32) (unhide HZ) (by rw [zb_size]; exact Tryd.size_dig) rfl (brow_one _) ?_)
  refine bodyPost_ret (v := .tuple #[.agg (zb 32), .int .i64 5]) ?_ rfl ⟨rfl, unhide HK⟩
  exact results_cell_tmp rfl _ _ (w.heap.size + 1) _ (zb 32) (0, 0) _ rfl (setRow_heap _ _ _ _ _ _ (unhide HZ)) Tryd.underlying41 rfl (by rw [zb_size]; exact Tryd.size_dig) _ rfl

set_option maxRecDepth 100000 in
set_option maxHeartbeats 400000 in
theorem rangeT_bad (z : Int) (t : Nat) (v : Value) (ps : List Pk) (lo hi : Int) (w : World) (hT : TreeAt z w t v ps) (hbad : hi < lo ∨ ((leavesK ps).length : Int) < hi) :
    Calls Tryd.prog 43 #[.pointer (some ⟨t, 0, none⟩), .int .u64 lo, .int .u64 hi] w fun e w' => e = .returned (.tuple #[.agg (zb 32), .int .i64 4]) ∧ Kept [] w w' := by
  have c1 := cell_of_row _ _ 1 _ _ _ hT.row
  simp at c1
  have k0 := ((Kept.refl [] w).alloc (.cells #[.pointer (some ⟨t, 0, none⟩)] 24)).alloc (.cells (zb 32) 41)
  have d1 := k0.cell c1 (by simp)
  obtain ⟨n, hn⟩ : ∃ n, (leavesK ps).length = n := ⟨_, rfl⟩
  rw [hn] at d1 hbad
  have HZ := hide (alloc2_at w (.cells #[.pointer (some ⟨t, 0, none⟩)] 24) (.cells (zb 32) 41))
  have HK := hide (k0.setRow (g := w.heap.size + 1) (Or.inr (by omega)) (zb 32))
  rw [← zb32] at d1
  clear c1 k0 hT
  by_cases h1 : hi < lo
  · go_enter Tryd.func43, Tryd.ntmps43
    go_wp2_with (rw [zb32]; refine wpList_store_row rfl 41 (.tmp 6) _ rfl (w.heap.size + 1) (zb 32) rfl rfl _ (zb 32) (unhide HZ) (by rw [zb_size]; exact Tryd.size_dig) rfl (brow_one _) ?_)
    refine bodyPost_ret (v := .tuple #[.agg (zb 32), .int .i64 4]) ?_ rfl ⟨rfl, unhide HK⟩
    exact results_cell_tmp rfl _ _ (w.heap.size + 1) _ (zb 32) (0, 0) _ rfl (setRow_heap _ _ _ _ _ _ (unhide HZ)) Tryd.underlying41 rfl (by rw [zb_size]; exact Tryd.size_dig) _ rfl
  · have h2 : (n : Int) < hi := by omega
    go_enter Tryd.func43, Tryd.ntmps43
    go_wp2_with (rw [zb32]; refine wpList_store_row rfl 41 (.tmp 6) _ rfl (w.heap.size + 1) (zb 32) rfl rfl _ (zb 32) (unhide HZ) (by rw [zb_size]; exact Tryd.size_dig) rfl (brow_one _) ?_)
    refine bodyPost_ret (v := .tuple #[.agg (zb 32), .int .i64 4]) ?_ rfl ⟨rfl, unhide HK⟩
    exact results_cell_tmp rfl _ _ (w.heap.size + 1) _ (zb 32) (0, 0) _ rfl (setRow_heap _ _ _ _ _ _ (unhide HZ)) Tryd.underlying41 rfl (by rw [zb_size]; exact Tryd.size_dig) _ rfl

set_option maxRecDepth 100000 in
set_option maxHeartbeats 400000 in
theorem rangeT_self (z : Int) (t : Nat) (v : Value) (ps : List Pk) (lo : Nat) (w : World) (hT : TreeAt z w t v ps) (hhn : lo ≤ (leavesK ps).length) (hTb : Tabs w) :
    Calls Tryd.prog 43 #[.pointer (some ⟨t, 0, none⟩), .int .u64 lo, .int .u64 lo] w fun e w' => e = .returned (.tuple #[.agg (brow (noT z)), .int .i64 0]) ∧ Kept [] w w' := by
  have c1 := cell_of_row _ _ 1 _ _ _ hT.row
  have c0 := cell_of_row _ _ 0 _ _ _ hT.row
  simp at c0 c1
  have hz := width_le hT.wid
  have k0 := ((Kept.refl [] w).alloc (.cells #[.pointer (some ⟨t, 0, none⟩)] 24)).alloc (.cells (zb 32) 41)
  have d1 := k0.cell c1 (by simp)
  have d0 := k0.cell c0 (by simp)
  obtain ⟨n, hn⟩ : ∃ n, (leavesK ps).length = n := ⟨_, rfl⟩
  rw [hn] at d1 hhn
  have hll : ¬ (n : Int) < lo := by omega
  have hlr : ¬ (lo : Int) < lo := by omega
  have HZ := hide (alloc2_at w (.cells #[.pointer (some ⟨t, 0, none⟩)] 24) (.cells (zb 32) 41))
  have HK0 := hide k0
  have HNO := hide (by
    have h9 := nolog_all z _ (by omega) (hTb.kept k0 (by simp) (by simp))
    rw [show sumE z = 0 from if_pos hT.wid] at h9
    exact h9 : Calls Tryd.prog 57 #[.int .i64 z] ((w.alloc (.cells #[.pointer (some ⟨t, 0, none⟩)] 24)).alloc (.cells (zb 32) 41)) fun e w' => e = .returned (.tuple #[.agg (brow (noT z)), .int .i64 ((0 : Nat) : Int)]) ∧ Kept [] _ w')
  have hdl := (noT_dg z).1
  generalize noT z = D at HNO hdl ⊢
  rw [← zb32] at d1 d0
  clear c1 c0 k0 hT
  go_enter Tryd.func43, Tryd.ntmps43
  go_wp2_with fail
  rw [zb32]
  refine (unhide HNO).mono ?_
  rintro e w2 ⟨rfl, k2⟩
  have HZ2 := hide (k2.heap (unhide HZ) (by simp))
  have HK2 := hide (((unhide HK0).trans k2 (by simp)).setRow (g := w.heap.size + 1) (Or.inr (by omega)) (brow D))
  clear k2
  go_wp2_with (refine wpList_store_row rfl 41 (.tmp 6) _ rfl (w.heap.size + 1) (brow D) rfl rfl _ (zb 32) (unhide HZ2) (by rw [brow_size, hdl]; exact Tryd.size_dig) (by rw [zb_size, brow_size, hdl]) (brow_one _) ?_)
  refine bodyPost_ret (v := .tuple #[.agg (brow D), .int .i64 0]) ?_ rfl ⟨rfl, unhide HK2⟩
  exact results_cell_tmp rfl _ _ (w.heap.size + 1) _ (brow D) (0, 0) _ rfl (setRow_heap _ _ _ _ _ _ (unhide HZ2)) Tryd.underlying41 rfl (by rw [brow_size, hdl]; exact Tryd.size_dig) _ rfl

set_option maxRecDepth 100000 in
set_option maxHeartbeats 400000 in
theorem rangeT_any (z : Int) (t : Nat) (v : Value) (ps : List Pk) (lo hi : Nat) (w : World) (hT : TreeAt z w t v ps) (hlh : lo < hi) (hhn : hi ≤ (leavesK ps).length) (hb : (leavesK ps).length < 32768) (hTb : Tabs w) (h6 : Tab6 w) :
    Calls Tryd.prog 43 #[.pointer (some ⟨t, 0, none⟩), .int .u64 lo, .int .u64 hi] w fun e w' => e = .returned (.tuple #[.agg (brow (rngD z (noT z) (leavesK ps) lo hi)), .int .i64 0]) ∧ Kept [] w w' := by
  have c1 := cell_of_row _ _ 1 _ _ _ hT.row
  simp at c1
  have hlh1 : ¬ (hi : Int) < lo := by omega
  have hhn1 : ¬ ((leavesK ps).length : Int) < hi := by omega
  have hne1 : ¬ (lo : Int) = hi := by omega
  have k0 := ((Kept.refl [] w).alloc (.cells #[.pointer (some ⟨t, 0, none⟩)] 24)).alloc (.cells (zb 32) 41)
  have d1 := k0.cell c1 (by simp)
  rw [← zb32] at d1
  have G3 := alloc3_at w (.cells #[.pointer (some ⟨t, 0, none⟩)] 24) (.cells (zb 32) 41) (.cells #[.nilFunc] 97)
  have cS := cell_of_row _ _ 0 _ _ _ G3
  have fS := frozen_of_row _ _ 0 _ _ G3
  rw [show (#[Value.nilFunc] : Array Value)[0]? = some .nilFunc from rfl] at cS
  have k2 := k0.alloc (.cells #[sumV w.heap.size (w.heap.size + 1 + 1)] 97)
  have G4 := alloc3_at w (.cells #[.pointer (some ⟨t, 0, none⟩)] 24) (.cells (zb 32) 41) (.cells #[sumV w.heap.size (w.heap.size + 1 + 1)] 97)
  have GT := (((Kept.refl [] (w.alloc (.cells #[.pointer (some ⟨t, 0, none⟩)] 24))).alloc (.cells (zb 32) 41)).alloc (.cells #[sumV w.heap.size (w.heap.size + 1 + 1)] 97)).heap (heap_alloc_new w (.cells #[.pointer (some ⟨t, 0, none⟩)] 24)) (by simp)
  have GZ := ((Kept.refl [] ((w.alloc (.cells #[.pointer (some ⟨t, 0, none⟩)] 24)).alloc (.cells (zb 32) 41))).alloc (.cells #[sumV w.heap.size (w.heap.size + 1 + 1)] 97)).heap (alloc2_at w (.cells #[.pointer (some ⟨t, 0, none⟩)] 24) (.cells (zb 32) 41)) (by simp)
  have HSW := hide (⟨hT.old k2, GT, G4, hTb.kept k2 (by simp) (by simp), h6.kept k2⟩ : SumW z t v ps w.heap.size (w.heap.size + 1 + 1) _)
  have HGZ := hide GZ
  have HK2 := hide k2
  have hdl := (log_dg z (noT z) (((leavesK ps).drop lo).take (hi - lo)) (noT_dg z) (fun d hd => (hT.pk.leaves d (List.mem_of_mem_drop (List.mem_of_mem_take hd))).1)).1
  have HSM := hide (sumT_any z (noT z) (noT_dg z) (noT_form hT.wid) t v ps w.heap.size (w.heap.size + 1 + 1) (hi - lo) lo hi _ (Nat.le_refl _) hlh hhn hb (unhide HSW))
  obtain ⟨n, hn⟩ : ∃ n, (leavesK ps).length = n := ⟨_, rfl⟩
  rw [hn] at d1 hhn1
  obtain ⟨D, hD⟩ : ∃ D, rngD z (noT z) (leavesK ps) lo hi = D := ⟨_, rfl⟩
  have hdl2 : D.length = 32 := by rw [← hD]; exact hdl
  rw [hD] at HSM ⊢
  unfold sumV at HSM HK2 HGZ
  rw [← zb32] at cS fS
  clear c1 k0 k2 G3 G4 GT GZ hT hTb h6 hD HSW hdl hn hhn hb hlh
  go_enter Tryd.func43, Tryd.ntmps43
  go_wp2_with (rw [run_store _ _ _ _ _ (by rfl), cS]; simp only [fS, Bool.false_eq_true, if_false, Result.andThen_ok])
  rw [zb32]
  refine (unhide HSM).mono ?_
  rintro e w5 ⟨rfl, k5⟩
  have HZ5 := hide (k5.heap (unhide HGZ) (by simp))
  have HK5 := hide (((unhide HK2).trans k5 (by simp)).setRow (g := w.heap.size + 1) (Or.inr (by omega)) (brow D))
  clear k5 cS fS
  go_wp2_with (refine wpList_store_row rfl 41 (.tmp 6) _ rfl (w.heap.size + 1) (brow D) rfl rfl _ (zb 32) (unhide HZ5) (by rw [brow_size, hdl2]; exact Tryd.size_dig) (by rw [zb_size, brow_size, hdl2]) (brow_one _) ?_)
  refine bodyPost_ret (v := .tuple #[.agg (brow D), .int .i64 0]) ?_ rfl ⟨rfl, unhide HK5⟩
  exact results_cell_tmp rfl _ _ (w.heap.size + 1) _ (brow D) (0, 0) _ rfl (setRow_heap _ _ _ _ _ _ (unhide HZ5)) Tryd.underlying41 rfl (by rw [brow_size, hdl2]; exact Tryd.size_dig) _ rfl

/-- What Range answers: the digest and the error. -/
def rgD (z : Int) (L : List (List Nat)) (lo hi : Nat) : List Nat := if hi < lo ∨ L.length < hi then List.replicate 32 0 else rngD z (noT z) L lo hi
def rgE (L : List (List Nat)) (lo hi : Nat) : Int := if hi < lo ∨ L.length < hi then 4 else 0
theorem rangeT_all (z : Int) (t : Nat) (v : Value) (ps : List Pk) (lo hi : Nat) (w : World) (hT : TreeAt z w t v ps) (hb : (leavesK ps).length < 32768) (hTb : Tabs w) (h6 : Tab6 w) :
    Calls Tryd.prog 43 #[.pointer (some ⟨t, 0, none⟩), .int .u64 lo, .int .u64 hi] w fun e w' => e = .returned (.tuple #[.agg (brow (rgD z (leavesK ps) lo hi)), .int .i64 (rgE (leavesK ps) lo hi)]) ∧ Kept [] w w' := by
  unfold rgD rgE
  by_cases h : hi < lo ∨ (leavesK ps).length < hi
  · rw [if_pos h, if_pos h]
    exact rangeT_bad z t v ps lo hi w hT (by omega)
  · rw [if_neg h, if_neg h]
    rcases (by omega : lo = hi ∨ lo < hi) with rfl | h2
    · rw [rngD_self]
      exact rangeT_self z t v ps lo w hT (by omega) hTb
    · exact rangeT_any z t v ps lo hi w hT h2 (by omega) hb hTb h6
theorem rgD_len {z : Int} {w : World} {ps : List Pk} (h : PKs z w ps) (lo hi : Nat) : Dg (rgD z (leavesK ps) lo hi) := by
  unfold rgD
  split
  · exact ⟨by simp, by simp⟩
  · exact log_dg z (noT z) _ (noT_dg z) (fun d hd => (h.leaves d (List.mem_of_mem_drop (List.mem_of_mem_take hd))).1)

set_option maxRecDepth 100000 in
set_option maxHeartbeats 400000 in
theorem rootT_all (z : Int) (t : Nat) (v : Value) (ps : List Pk) (n : Nat) (w : World) (hT : TreeAt z w t v ps) (hb : (leavesK ps).length < 32768) (hTb : Tabs w) (h6 : Tab6 w) :
    Calls Tryd.prog 23 #[.pointer (some ⟨t, 0, none⟩), .int .u64 n] w fun e w' => e = .returned (.tuple #[.agg (brow (rgD z (leavesK ps) 0 n)), .int .i64 (rgE (leavesK ps) 0 n)]) ∧ Kept [] w w' := by
  have hdl := (rgD_len hT.pk 0 n).1
  have k0 := (Kept.refl [] w).alloc (.cells (zb 32) 41)
  have HR := hide (rangeT_all z t v ps 0 n _ (hT.old k0) hb (hTb.kept k0 (by simp) (by simp)) (h6.kept k0))
  have HZ := hide (heap_alloc_new w (.cells (zb 32) 41))
  have HK := hide k0
  generalize rgD z (leavesK ps) 0 n = D at HR hdl ⊢
  generalize rgE (leavesK ps) 0 n = E at HR ⊢
  clear k0 hT
  go_enter Tryd.func23, Tryd.ntmps23
  go_wp2_with fail
  rw [zb32]
  refine (unhide HR).mono ?_
  rintro e w5 ⟨rfl, k5⟩
  have HZ5 := hide (k5.heap (unhide HZ) (by simp))
  have HK5 := hide (((unhide HK).trans k5 (by simp)).setRow (g := w.heap.size) (Or.inr (Nat.le_refl _)) (brow D))
  clear k5
  go_wp2_with (refine wpList_store_row rfl 41 _ _ rfl w.heap.size (brow D) rfl rfl _ (zb 32) (unhide HZ5) (by rw [brow_size, hdl]; exact Tryd.size_dig) (by rw [zb_size, brow_size, hdl]) (brow_one _) ?_)
  refine bodyPost_ret (v := .tuple #[.agg (brow D), .int .i64 E]) ?_ rfl ⟨rfl, unhide HK5⟩
  exact results_cell_tmp rfl _ _ w.heap.size _ (brow D) (0, 0) _ rfl (setRow_heap _ _ _ _ _ _ (unhide HZ5)) Tryd.underlying41 rfl (by rw [brow_size, hdl]; exact Tryd.size_dig) _ rfl

set_option maxRecDepth 100000 in
set_option maxHeartbeats 400000 in
theorem rootT_nil (n : Int) (w : World) :
    Calls Tryd.prog 23 #[.pointer none, .int .u64 n] w fun e w' => e = .returned (.tuple #[.agg (zb 32), .int .i64 5]) ∧ Kept [] w w' := by
  have HZ := hide (heap_alloc_new w (.cells (zb 32) 41))
  have HK := hide ((Kept.refl [] w).alloc (.cells (zb 32) 41))
  go_enter Tryd.func23, Tryd.ntmps23
  go_wp2_with fail
  rw [zb32]
  refine (rangeT_nil 0 n _).mono ?_
  rintro e w5 ⟨rfl, k5⟩
  have HZ5 := hide (k5.heap (unhide HZ) (by simp))
  have HK5 := hide (((unhide HK).trans k5 (by simp)).setRow (g := w.heap.size) (Or.inr (Nat.le_refl _)) (zb 32))
  clear k5
  go_wp2_with (refine wpList_store_row rfl 41 _ _ rfl w.heap.size (zb 32) rfl rfl _ (zb 32) (unhide HZ5) (by rw [zb_size]; exact Tryd.size_dig) rfl (brow_one _) ?_)
  refine bodyPost_ret (v := .tuple #[.agg (zb 32), .int .i64 5]) ?_ rfl ⟨rfl, unhide HK5⟩
  exact results_cell_tmp rfl _ _ w.heap.size _ (zb 32) (0, 0) _ rfl (setRow_heap _ _ _ _ _ _ (unhide HZ5)) Tryd.underlying41 rfl (by rw [zb_size]; exact Tryd.size_dig) _ rfl
end Go.Proofs.YtecadmldnjlibaaDoor
namespace Go.Proofs.YtecadmldnjlibaaDoor
open Go.RowKit Go.BigFrame
set_option linter.unusedVariables false
set_option linter.unusedSimpArgs false

/-- What Leaf answers. -/
def lfD (L : List (List Nat)) (i : Nat) : List Nat := if L.length ≤ i then List.replicate 32 0 else L.getD i []
def lfE (L : List (List Nat)) (i : Nat) : Int := if L.length ≤ i then 4 else 0
theorem lfD_dg {z : Int} {w : World} {ps : List Pk} (h : PKs z w ps) (i : Nat) : Dg (lfD (leavesK ps) i) := by
  unfold lfD
  split
  · exact ⟨by simp, by simp⟩
  · rename_i h1
    rw [List.getD_eq_getElem?_getD, List.getElem?_eq_getElem (by omega)]
    exact (h.leaves _ (List.getElem_mem _)).1

set_option maxRecDepth 100000 in
set_option maxHeartbeats 400000 in
theorem leafT_nil (i : Int) (w : World) :
    Calls Tryd.prog 29 #[.pointer none, .int .u64 i] w fun e w' => e = .returned (.tuple #[.agg (zb 32), .int .i64 5]) ∧ Kept [] w w' := by
  have HZ := hide (heap_alloc_new w (.cells (zb 32) 41))
  have HK := hide (((Kept.refl [] w).alloc (.cells (zb 32) 41)).setRow (g := w.heap.size) (Or.inr (Nat.le_refl _)) (zb 32))
  go_enter Tryd.func29, Tryd.ntmps29
  go_wp2_with (rw [zb32]; refine wpList_store_row rfl 41 _ _ rfl w.heap.size (zb 32) rfl rfl _ (zb 32) (unhide HZ) (by rw [zb_size]; exact Tryd.size_dig) rfl (brow_one _) ?_)
  refine bodyPost_ret (v := .tuple #[.agg (zb 32), .int .i64 5]) ?_ rfl ⟨rfl, unhide HK⟩
  exact results_cell_tmp rfl _ _ w.heap.size _ (zb 32) (0, 0) _ rfl (setRow_heap _ _ _ _ _ _ (unhide HZ)) Tryd.underlying41 rfl (by rw [zb_size]; exact Tryd.size_dig) _ rfl

set_option maxRecDepth 100000 in
set_option maxHeartbeats 400000 in
theorem leafT_all (z : Int) (t : Nat) (v : Value) (ps : List Pk) (i : Nat) (w : World) (hT : TreeAt z w t v ps) (hb : (leavesK ps).length < 32768) :
    Calls Tryd.prog 29 #[.pointer (some ⟨t, 0, none⟩), .int .u64 i] w fun e w' => e = .returned (.tuple #[.agg (brow (lfD (leavesK ps) i)), .int .i64 (lfE (leavesK ps) i)]) ∧ Kept [] w w' := by
  have hdl := (lfD_dg hT.pk i).1
  have c1 := cell_of_row _ _ 1 _ _ _ hT.row
  simp at c1
  have k0 := (Kept.refl [] w).alloc (.cells (zb 32) 41)
  have d1 := k0.cell c1 (by simp)
  have HZ := hide (heap_alloc_new w (.cells (zb 32) 41))
  have HK := hide k0
  rw [← zb32] at d1
  by_cases h : (leavesK ps).length ≤ i
  · have e1 : lfD (leavesK ps) i = List.replicate 32 0 := if_pos h
    have e2 : lfE (leavesK ps) i = 4 := if_pos h
    rw [e1, e2]
    have h' : ((leavesK ps).length : Int) ≤ i := by omega
    generalize (leavesK ps).length = n at d1 h'
    clear e1 e2 h hdl hb c1 k0 hT
    show Calls Tryd.prog 29 #[.pointer (some ⟨t, 0, none⟩), .int .u64 i] w fun e w' => e = .returned (.tuple #[.agg (zb 32), .int .i64 4]) ∧ Kept [] w w'
    go_enter Tryd.func29, Tryd.ntmps29
    go_wp2_with (rw [zb32]; refine wpList_store_row rfl 41 _ _ rfl w.heap.size (zb 32) rfl rfl _ (zb 32) (unhide HZ) (by rw [zb_size]; exact Tryd.size_dig) rfl (brow_one _) ?_)
    refine bodyPost_ret (v := .tuple #[.agg (zb 32), .int .i64 4]) ?_ rfl ⟨rfl, (unhide HK).setRow (g := w.heap.size) (Or.inr (Nat.le_refl _)) (zb 32)⟩
    exact results_cell_tmp rfl _ _ w.heap.size _ (zb 32) (0, 0) _ rfl (setRow_heap _ _ _ _ _ _ (unhide HZ)) Tryd.underlying41 rfl (by rw [zb_size]; exact Tryd.size_dig) _ rfl
  · have e2 : lfE (leavesK ps) i = 0 := if_neg h
    rw [e2]
    have h' : ¬ ((leavesK ps).length : Int) ≤ i := by omega
    have HKE := hide (by
      have h9 := keptT_any z t v ps i 0 _ (hT.old k0) (by simp; omega) (by simp) hb
      have e3 : perT z 0 (((leavesK ps).drop i).take (2 ^ 0)) = lfD (leavesK ps) i := by
        unfold lfD
        rw [if_neg h]
        simp [perT, List.getD_eq_getElem?_getD, List.getElem?_drop, List.getElem?_take]
      rw [e3] at h9
      exact h9 : Calls Tryd.prog 47 #[.pointer (some ⟨t, 0, none⟩), .int .u64 i, .int .i64 ((0 : Nat) : Int)] (w.alloc (.cells (zb 32) 41)) fun e w' => e = .returned (.agg (brow (lfD (leavesK ps) i))) ∧ Kept [] _ w')
    generalize (leavesK ps).length = n at d1 h'
    generalize lfD (leavesK ps) i = D at HKE hdl ⊢
    clear e2 h hb c1 k0 hT
    go_enter Tryd.func29, Tryd.ntmps29
    go_wp2_with fail
    rw [zb32]
    refine (unhide HKE).mono ?_
    rintro e w5 ⟨rfl, k5⟩
    have HZ5 := hide (k5.heap (unhide HZ) (by simp))
    have HK5 := hide (((unhide HK).trans k5 (by simp)).setRow (g := w.heap.size) (Or.inr (Nat.le_refl _)) (brow D))
    clear k5
    go_wp2_with (refine wpList_store_row rfl 41 _ _ rfl w.heap.size (brow D) rfl rfl _ (zb 32) (unhide HZ5) (by rw [brow_size, hdl]; exact Tryd.size_dig) (by rw [zb_size, brow_size, hdl]) (brow_one _) ?_)
    refine bodyPost_ret (v := .tuple #[.agg (brow D), .int .i64 0]) ?_ rfl ⟨rfl, unhide HK5⟩
    exact results_cell_tmp rfl _ _ w.heap.size _ (brow D) (0, 0) _ rfl (setRow_heap _ _ _ _ _ _ (unhide HZ5)) Tryd.underlying41 rfl (by rw [brow_size, hdl]; exact Tryd.size_dig) _ rfl
end Go.Proofs.YtecadmldnjlibaaDoor
/-
  A row in the midst of a block, read within a quiet walk.
-/
namespace Go.Proofs.YtecadmldnjlibaaDoor
open Go Go.RowKit Go.BigFrame

theorem wpQuiet_mid {P : Program} {ops : Array Oper} {C : World → Prop} {Q : Act → Prop} {a : Act} {o : Oper} {rest : List Oper} (hw : Region.wanted o (yielded ops a.tmps) = true) (ty : TypeId) (x : Operand) (ho : o.op = .load ty x)
    (b off : Nat) (hx : a.eval x = .pointer (some ⟨b, off, none⟩)) (cs : List Value) (d : TypeDesc) (hg : ∀ w, C w → w.rangeAt b off cs)
    (hu : P.underlying ty = some d) (hd : d.isRow = true) (hi : (P.info? ty).map (·.size) = some cs.length)
    (h : wpQuiet P ops C Q rest (a.put o.dst (.agg cs.toArray))) : wpQuiet P ops C Q (o :: rest) a := by
  refine wpQuiet_want hw fun K hK => ⟨.agg cs.toArray, fun w hw => ?_, hK _ h⟩
  unfold Oper.quietAt execOp
  simp only [ho]
  have := run_loadVar_mid (P := P) w b off ty cs d (hg w hw) hu hd hi
  simp only [hx, Instr.loadAt, Instr.sureAddr, Sem.run_bind, Sem.run_pure, Result.andThen_ok, this, Oper.quietUpon, and_self]
end Go.Proofs.YtecadmldnjlibaaDoor
namespace Go.Proofs.YtecadmldnjlibaaDoor
open Go.RowKit Go.BigFrame
set_option linter.unusedVariables false
set_option linter.unusedSimpArgs false

theorem RdD.upto {w : World} {ao : Option Addr} {len cap : Nat} {ds : List (List Nat)} (h : RdD w (.slice ao len cap) ds) (k : Nat) (hk : k ≤ len) : RdD w (.slice ao k cap) (ds.take k) := by
  obtain ⟨ao', len', cap', e, h1, h2, h3, h4, h5⟩ := h
  cases e
  refine ⟨ao, k, cap, rfl, by rw [List.length_take]; omega, by omega, h3, fun d hd => h4 d (List.mem_of_mem_take hd), fun hp => ?_⟩
  obtain ⟨b, off, rfl, hc⟩ := h5 (by omega)
  refine ⟨b, off, rfl, fun i hi => ?_⟩
  rw [List.getD_eq_getElem?_getD, List.getElem?_take_of_lt hi, ← List.getD_eq_getElem?_getD]
  exact hc i (by omega)
theorem RdD.dg {w : World} {v : Value} {ds : List (List Nat)} (h : RdD w v ds) {d : List Nat} (hd : d ∈ ds) : Dg d := by
  obtain ⟨ao', len', cap', e, h1, h2, h3, h4, h5⟩ := h
  exact h4 d hd
/-- What stands ahead of the last, and that one. -/
theorem last_cut {ds : List (List Nat)} {x : List Nat} {r : List (List Nat)} (h : ds.reverse = x :: r) : ds = r.reverse ++ [x] ∧ ds.length = r.length + 1 := by
  have h2 := congrArg List.reverse h
  simp only [List.reverse_reverse, List.reverse_cons] at h2
  refine ⟨h2, ?_⟩
  rw [h2]; simp

theorem results_tmp_cell {P : Program} {fn : Func} {p q : Tmp} {ty : TypeId} (h : fn.results = #[.tmp q, .cell p ty]) (tmps : Array Value) (w : World) (g : Nat) (t : TypeId) (cs : Array Value) (fr : Nat × Nat) (d : TypeDesc)
    (hp : tmps.getD p undef = .pointer (some ⟨g, 0, none⟩)) (hg : w.heap[g]? = some (.cells cs t fr))
    (hu : P.underlying ty = some d) (hd : (match d with | .struct _ | .array _ _ => true | _ => false) = true) (hi : (P.info? ty).map (·.size) = some cs.size) (v : Value) (hq : tmps.getD q undef = v) :
    (results fn tmps).run P w = .ok (.tuple #[v, .agg cs]) w := by
  have hp' : tmps[p]?.getD undef = .pointer (some ⟨g, 0, none⟩) := by simpa using hp
  have hq' : tmps[q]?.getD undef = v := by simpa using hq
  simp [results, h, hp', hq', asAddr, run_loadVar_row w g t ty cs fr d hg hu hd hi]
theorem formedE_two {z : Int} {l m : List Nat} (hw : widthB z = true) (hl : formB z l = true) (hm : formB z m = true) : formedE z [l, m] = 0 := by simp [formedE, hw, hl, hm]

set_option maxRecDepth 100000 in
set_option maxHeartbeats 1000000 in
theorem refNode_any (k : Nat) (l m : List Nat) (w : World) (hk : 1 ≤ k ∧ k ≤ 32) (hl : Dg l) (hm : Dg m) :
    Calls Tryd.prog 30 #[.int .i64 k, .agg (brow l), .agg (brow m)] w fun e w' => e = .returned (.agg (brow (nodS k l m))) ∧ Kept [] w w' := by
  have HE := hide (by unfold nodS sumD; rw [if_pos (by simp [widthB]; omega), Int.toNat_natCast] : nodS (k : Int) l m = cutL k (hash (nodeB k l m)))
  obtain ⟨D, hD⟩ : ∃ D, nodS (k : Int) l m = D := ⟨_, rfl⟩
  have hcl : D.length = 32 := by rw [← hD]; exact (nodS_dg _ l m).1
  rw [hD] at HE ⊢
  clear hD
  have HL := hide hl
  have HM := hide hm
  clear hl hm
  go_enter Tryd.func30, Tryd.ntmps30
  have HK0 := hide ((((Kept.refl [] w).alloc (.cells (brow l) 41)).alloc (.cells (brow m) 41)).alloc (.cells (zb 32) 41))
  have HGZ := hide (alloc3_at w (.cells (brow l) 41) (.cells (brow m) 41) (.cells (zb 32) 41))
  have HGM := hide (((Kept.refl [] ((w.alloc (.cells (brow l) 41)).alloc (.cells (brow m) 41))).alloc (.cells (zb 32) 41)).heap (alloc_at w (.cells (brow l) 41) (.cells (brow m) 41)) (by simp))
  have HGL := hide ((((Kept.refl [] (w.alloc (.cells (brow l) 41))).alloc (.cells (brow m) 41)).alloc (.cells (zb 32) 41)).heap (heap_alloc_new w (.cells (brow l) 41)) (by simp))
  have HSL := hide (by rw [List.length_map, (unhide HL).1]; exact Tryd.size_dig : (Tryd.prog.info? 41).map (·.size) = some (l.map u8).length)
  have HSM := hide (by rw [List.length_map, (unhide HM).1]; exact Tryd.size_dig : (Tryd.prog.info? 41).map (·.size) = some (m.map u8).length)
  go_wp2_with (first
    | (refine wpList_load_mid rfl 41 _ rfl w.heap.size 0 rfl (l.map u8) _ (range_row (unhide HGL)) Tryd.underlying41 rfl (unhide HSL) ?_)
    | (refine wpList_load_mid rfl 41 _ rfl (w.heap.size + 1) 0 rfl (m.map u8) _ (range_row (unhide HGM)) Tryd.underlying41 rfl (unhide HSM) ?_))
  rw [zb32]
  refine Calls.mono (refNodeInput_any k l m _ hk (unhide HL).1 (unhide HM).1 (unhide HL).2 (unhide HM).2) ?_
  rintro e w1 ⟨v1, rfl, r1, k1⟩
  have HR1 := hide r1
  obtain ⟨a1, m1, c1, rfl, _⟩ := id r1
  have HZ1 := hide (k1.heap (unhide HGZ) (by simp))
  have HK1 := hide ((unhide HK0).trans k1 (by simp))
  clear k1 r1 HGL HGM
  go_wp2_with fail
  refine Calls.mono (refCut_any k _ (nodeB k l m) _ (unhide HR1) hk.2) ?_
  rintro e w2 ⟨rfl, k2⟩
  rw [← unhide HE]
  have HZ2 := hide (k2.heap (unhide HZ1) (by simp))
  have HK2 := hide ((unhide HK1).trans k2 (by simp))
  clear k2
  go_wp2_with (refine wpList_store_row rfl 41 _ _ rfl (w.heap.size + 1 + 1) (brow D) rfl rfl _ (zb 32) (unhide HZ2) (by rw [brow_size, hcl]; exact Tryd.size_dig) (by rw [zb_size, brow_size, hcl]) (brow_one _) ?_)
  refine bodyPost_ret (v := .agg (brow D)) ?_ rfl ⟨rfl, (unhide HK2).setRow (Or.inr (by omega)) _⟩
  exact results_cell_row rfl _ _ (w.heap.size + 1 + 1) _ (brow D) (0, 0) _ rfl (setRow_heap _ _ _ _ _ _ (unhide HZ2)) Tryd.underlying41 rfl (by rw [brow_size, hcl]; exact Tryd.size_dig)

theorem spl_of {n k : Nat} (h2 : 2 ≤ n) (j : Nat) (hk : k = 2 ^ j) (hlt : k < n) (hge : n ≤ 2 * k) : spl n = k := by
  subst hk
  unfold spl
  have : (n - 1).log2 = j := by
    have a1 : 2 ^ j ≤ n - 1 := by omega
    have a2 : n - 1 < 2 ^ (j + 1) := by rw [Nat.pow_succ]; omega
    exact (Nat.log2_eq_iff (by omega)).2 ⟨a1, a2⟩
  rw [this]

end Go.Proofs.YtecadmldnjlibaaDoor
/-
  Laws for drawn regions, by genreg.py. No program.
-/
namespace Go.Proofs.YtecadmldnjlibaaDoor
open Go Go.RowKit Go.BigFrame
set_option linter.unusedVariables false
set_option linter.unusedSimpArgs false
section
variable {P : Program} {Q : Exit → Act → World → Prop}
theorem wp_lo13 {id : Nat} {o0 o1 o2 o3 o4 o5 o6 o7 o8 o9 o10 o11 o12 : Oper} {a : Act} {w : World} (hm : P.follows .mixedOrders = true) (hs : Region.noSelect #[o0, o1, o2, o3, o4, o5, o6, o7, o8, o9, o10, o11, o12] = true)
    (f0 : Region.free .any #[o0, o1, o2, o3, o4, o5, o6, o7, o8, o9, o10, o11, o12] #[false, false, false, false, false, false, false, false, false, false, false, false, false] 0 = true) (r0 : (Region.ready .any #[o0, o1, o2, o3, o4, o5, o6, o7, o8, o9, o10, o11, o12] #[false, false, false, false, false, false, false, false, false, false, false, false, false]).contains 0 = true)
    (f1 : Region.free .any #[o0, o1, o2, o3, o4, o5, o6, o7, o8, o9, o10, o11, o12] #[true, false, false, false, false, false, false, false, false, false, false, false, false] 1 = true) (r1 : (Region.ready .any #[o0, o1, o2, o3, o4, o5, o6, o7, o8, o9, o10, o11, o12] #[true, false, false, false, false, false, false, false, false, false, false, false, false]).contains 1 = true)
    (f2 : Region.free .any #[o0, o1, o2, o3, o4, o5, o6, o7, o8, o9, o10, o11, o12] #[true, true, false, false, false, false, false, false, false, false, false, false, false] 2 = true) (r2 : (Region.ready .any #[o0, o1, o2, o3, o4, o5, o6, o7, o8, o9, o10, o11, o12] #[true, true, false, false, false, false, false, false, false, false, false, false, false]).contains 2 = true)
    (f3 : Region.free .any #[o0, o1, o2, o3, o4, o5, o6, o7, o8, o9, o10, o11, o12] #[true, true, true, false, false, false, false, false, false, false, false, false, false] 3 = true) (r3 : (Region.ready .any #[o0, o1, o2, o3, o4, o5, o6, o7, o8, o9, o10, o11, o12] #[true, true, true, false, false, false, false, false, false, false, false, false, false]).contains 3 = true)
    (f4 : Region.free .any #[o0, o1, o2, o3, o4, o5, o6, o7, o8, o9, o10, o11, o12] #[true, true, true, true, false, false, false, false, false, false, false, false, false] 4 = true) (r4 : (Region.ready .any #[o0, o1, o2, o3, o4, o5, o6, o7, o8, o9, o10, o11, o12] #[true, true, true, true, false, false, false, false, false, false, false, false, false]).contains 4 = true)
    (f6 : Region.free .any #[o0, o1, o2, o3, o4, o5, o6, o7, o8, o9, o10, o11, o12] #[true, true, true, true, true, false, false, false, false, false, false, false, false] 6 = true) (r6 : (Region.ready .any #[o0, o1, o2, o3, o4, o5, o6, o7, o8, o9, o10, o11, o12] #[true, true, true, true, true, false, false, false, false, false, false, false, false]).contains 6 = true)
    (f7 : Region.free .any #[o0, o1, o2, o3, o4, o5, o6, o7, o8, o9, o10, o11, o12] #[true, true, true, true, true, false, true, false, false, false, false, false, false] 7 = true) (r7 : (Region.ready .any #[o0, o1, o2, o3, o4, o5, o6, o7, o8, o9, o10, o11, o12] #[true, true, true, true, true, false, true, false, false, false, false, false, false]).contains 7 = true)
    (f8 : Region.free .any #[o0, o1, o2, o3, o4, o5, o6, o7, o8, o9, o10, o11, o12] #[true, true, true, true, true, false, true, true, false, false, false, false, false] 8 = true) (r8 : (Region.ready .any #[o0, o1, o2, o3, o4, o5, o6, o7, o8, o9, o10, o11, o12] #[true, true, true, true, true, false, true, true, false, false, false, false, false]).contains 8 = true)
    (f9 : Region.free .any #[o0, o1, o2, o3, o4, o5, o6, o7, o8, o9, o10, o11, o12] #[true, true, true, true, true, false, true, true, true, false, false, false, false] 9 = true) (r9 : (Region.ready .any #[o0, o1, o2, o3, o4, o5, o6, o7, o8, o9, o10, o11, o12] #[true, true, true, true, true, false, true, true, true, false, false, false, false]).contains 9 = true)
    (q_ : Region.ready .any #[o0, o1, o2, o3, o4, o5, o6, o7, o8, o9, o10, o11, o12] #[true, true, true, true, true, false, true, true, true, true, false, false, false] = [5])
    (q5_ : Region.ready .any #[o0, o1, o2, o3, o4, o5, o6, o7, o8, o9, o10, o11, o12] #[true, true, true, true, true, true, true, true, true, true, false, false, false] = [10])
    (q5_10_ : Region.ready .any #[o0, o1, o2, o3, o4, o5, o6, o7, o8, o9, o10, o11, o12] #[true, true, true, true, true, true, true, true, true, true, true, false, false] = [11])
    (q5_10_11_ : Region.ready .any #[o0, o1, o2, o3, o4, o5, o6, o7, o8, o9, o10, o11, o12] #[true, true, true, true, true, true, true, true, true, true, true, true, false] = [12])
    (q5_10_11_12_ : Region.ready .any #[o0, o1, o2, o3, o4, o5, o6, o7, o8, o9, o10, o11, o12] #[true, true, true, true, true, true, true, true, true, true, true, true, true] = [])
    (g5 : o5.guard = none)    (g10 : o10.guard = none)    (g11 : o11.guard = none)    (g12 : o12.guard = none)
    (v0 v1 v2 v3 v4 v6 v7 v8 v9 : Value) (A0 A1 A2 A3 A4 A5 A6 A7 A8 : Act)
    (S : World → Prop)
    (I_ : World → Prop)
    (I5_ : Value → World → Prop)
    (I5_10_ : Value → Value → World → Prop)
    (I5_10_11_ : Value → Value → Value → World → Prop)
    (I5_10_11_12_ : Value → Value → Value → Value → World → Prop)
    (p0 : a.put o0.dst v0 = A0) (hy0 : YieldsIf P #[o0, o1, o2, o3, o4, o5, o6, o7, o8, o9, o10, o11, o12] S o0 v0 a)
    (p1 : A0.put o1.dst v1 = A1) (hy1 : YieldsIf P #[o0, o1, o2, o3, o4, o5, o6, o7, o8, o9, o10, o11, o12] S o1 v1 A0)
    (p2 : A1.put o2.dst v2 = A2) (hy2 : YieldsIf P #[o0, o1, o2, o3, o4, o5, o6, o7, o8, o9, o10, o11, o12] S o2 v2 A1)
    (p3 : A2.put o3.dst v3 = A3) (hy3 : YieldsIf P #[o0, o1, o2, o3, o4, o5, o6, o7, o8, o9, o10, o11, o12] S o3 v3 A2)
    (p4 : A3.put o4.dst v4 = A4) (hy4 : YieldsIf P #[o0, o1, o2, o3, o4, o5, o6, o7, o8, o9, o10, o11, o12] S o4 v4 A3)
    (p6 : A4.put o6.dst v6 = A5) (hy6 : YieldsIf P #[o0, o1, o2, o3, o4, o5, o6, o7, o8, o9, o10, o11, o12] S o6 v6 A4)
    (p7 : A5.put o7.dst v7 = A6) (hy7 : YieldsIf P #[o0, o1, o2, o3, o4, o5, o6, o7, o8, o9, o10, o11, o12] S o7 v7 A5)
    (p8 : A6.put o8.dst v8 = A7) (hy8 : YieldsIf P #[o0, o1, o2, o3, o4, o5, o6, o7, o8, o9, o10, o11, o12] S o8 v8 A6)
    (p9 : A7.put o9.dst v9 = A8) (hy9 : YieldsIf P #[o0, o1, o2, o3, o4, o5, o6, o7, o8, o9, o10, o11, o12] S o9 v9 A7)
    (i0 : I_ w.drew)
    (hIS : (∀ w', I_  w' → S w') ∧ (∀ (u5 : Value) w', I5_ u5 w' → S w') ∧ (∀ (u5 u10 : Value) w', I5_10_ u5 u10 w' → S w') ∧ (∀ (u5 u10 u11 : Value) w', I5_10_11_ u5 u10 u11 w' → S w') ∧ (∀ (u5 u10 u11 u12 : Value) w', I5_10_11_12_ u5 u10 u11 u12 w' → S w'))
    (s_5 : ∀ w', I_  w' → ∀ K : Act → World → Prop, (∀ (u5 : Value) w2, I5_ u5 w2 → K (A8.put o5.dst u5) w2) → o5.wp P A8 w' K (NoPanic Q))
    (s5_10 : ∀ (u5 : Value) w', I5_ u5 w' → ∀ K : Act → World → Prop, (∀ (u10 : Value) w2, I5_10_ u5 u10 w2 → K ((A8.put o5.dst u5).put o10.dst u10) w2) → o10.wp P (A8.put o5.dst u5) w' K (NoPanic Q))
    (s5_10_11 : ∀ (u5 u10 : Value) w', I5_10_ u5 u10 w' → ∀ K : Act → World → Prop, (∀ (u11 : Value) w2, I5_10_11_ u5 u10 u11 w2 → K (((A8.put o5.dst u5).put o10.dst u10).put o11.dst u11) w2) → o11.wp P ((A8.put o5.dst u5).put o10.dst u10) w' K (NoPanic Q))
    (s5_10_11_12 : ∀ (u5 u10 u11 : Value) w', I5_10_11_ u5 u10 u11 w' → ∀ K : Act → World → Prop, (∀ (u12 : Value) w2, I5_10_11_12_ u5 u10 u11 u12 w2 → K ((((A8.put o5.dst u5).put o10.dst u10).put o11.dst u11).put o12.dst u12) w2) → o12.wp P (((A8.put o5.dst u5).put o10.dst u10).put o11.dst u11) w' K (NoPanic Q))
    (h : ∀ (u5 u10 u11 u12 : Value) w', I5_10_11_12_ u5 u10 u11 u12 w' → Q .normal ((((A8.put o5.dst u5).put o10.dst u10).put o11.dst u11).put o12.dst u12) w') :
    (Code.region id #[o0, o1, o2, o3, o4, o5, o6, o7, o8, o9, o10, o11, o12] true).wp P Q a w := by
  subst p0 p1 p2 p3 p4 p6 p7 p8 p9
  obtain ⟨z_, z5_, z5_10_, z5_10_11_, z5_10_11_12_⟩ := hIS
  refine wp_region_noPanic ?_
  refine wp_region_held_drew (S := S) hm (z_ _ i0) (fun hH => ?_)
  show wpAnyH P .any #[o0, o1, o2, o3, o4, o5, o6, o7, o8, o9, o10, o11, o12] (NoPanic Q) S 13 #[false, false, false, false, false, false, false, false, false, false, false, false, false] a w.drew
  refine wpAnyH_take (i := 0) (oi := o0) rfl hs f0 r0 (fun _ _ _ h => h) hy0 hH ?_
  refine wpAnyH_take (i := 1) (oi := o1) rfl hs f1 r1 (fun _ _ _ h => h) hy1 hH ?_
  refine wpAnyH_take (i := 2) (oi := o2) rfl hs f2 r2 (fun _ _ _ h => h) hy2 hH ?_
  refine wpAnyH_take (i := 3) (oi := o3) rfl hs f3 r3 (fun _ _ _ h => h) hy3 hH ?_
  refine wpAnyH_take (i := 4) (oi := o4) rfl hs f4 r4 (fun _ _ _ h => h) hy4 hH ?_
  refine wpAnyH_take (i := 6) (oi := o6) rfl hs f6 r6 (fun _ _ _ h => h) hy6 hH ?_
  refine wpAnyH_take (i := 7) (oi := o7) rfl hs f7 r7 (fun _ _ _ h => h) hy7 hH ?_
  refine wpAnyH_take (i := 8) (oi := o8) rfl hs f8 r8 (fun _ _ _ h => h) hy8 hH ?_
  refine wpAnyH_take (i := 9) (oi := o9) rfl hs f9 r9 (fun _ _ _ h => h) hy9 hH ?_
  generalize (((((((((a.put o0.dst v0).put o1.dst v1).put o2.dst v2).put o3.dst v3).put o4.dst v4).put o6.dst v6).put o7.dst v7).put o8.dst v8).put o9.dst v9) = B at *
  have wa5 : ∀ y, Region.wanted o5 y = true := fun y => by unfold Region.wanted; rw [g5]
  have wa10 : ∀ y, Region.wanted o10 y = true := fun y => by unfold Region.wanted; rw [g10]
  have wa11 : ∀ y, Region.wanted o11 y = true := fun y => by unfold Region.wanted; rw [g11]
  have wa12 : ∀ y, Region.wanted o12 y = true := fun y => by unfold Region.wanted; rw [g12]
  have t5_10_11_12_ : ∀ (u5 u10 u11 u12 : Value) w', I5_10_11_12_ u5 u10 u11 u12 w' → wpAnyH P .any #[o0, o1, o2, o3, o4, o5, o6, o7, o8, o9, o10, o11, o12] (NoPanic Q) S 0 #[true, true, true, true, true, true, true, true, true, true, true, true, true] ((((B.put o5.dst u5).put o10.dst u10).put o11.dst u11).put o12.dst u12) w' := by
    intro u5 u10 u11 u12 w0 i0
    exact ⟨q5_10_11_12_, NoPanic.normal (h u5 u10 u11 u12 w0 i0)⟩
  have t5_10_11_ : ∀ (u5 u10 u11 : Value) w', I5_10_11_ u5 u10 u11 w' → wpAnyH P .any #[o0, o1, o2, o3, o4, o5, o6, o7, o8, o9, o10, o11, o12] (NoPanic Q) S 1 #[true, true, true, true, true, true, true, true, true, true, true, true, false] (((B.put o5.dst u5).put o10.dst u10).put o11.dst u11) w' := by
    intro u5 u10 u11 w0 i0
    refine wpAnyH_ready (rs := [12]) q5_10_11_ (by simp) (AllReadyH.cons (o := o12) rfl (fun K hK => ?_) AllReadyH.nil)
    · rw [if_pos (wa12 _)]
      refine s5_10_11_12 u5 u10 u11 w0 i0 K (fun u12 w1 i1 => hK.out _ _ (z5_10_11_12_ u5 u10 u11 u12 w1 i1) (fun _ => ?_))
      clear hK
      exact t5_10_11_12_ u5 u10 u11 u12 w1 i1
  have t5_10_ : ∀ (u5 u10 : Value) w', I5_10_ u5 u10 w' → wpAnyH P .any #[o0, o1, o2, o3, o4, o5, o6, o7, o8, o9, o10, o11, o12] (NoPanic Q) S 2 #[true, true, true, true, true, true, true, true, true, true, true, false, false] ((B.put o5.dst u5).put o10.dst u10) w' := by
    intro u5 u10 w0 i0
    refine wpAnyH_ready (rs := [11]) q5_10_ (by simp) (AllReadyH.cons (o := o11) rfl (fun K hK => ?_) AllReadyH.nil)
    · rw [if_pos (wa11 _)]
      refine s5_10_11 u5 u10 w0 i0 K (fun u11 w1 i1 => hK.out _ _ (z5_10_11_ u5 u10 u11 w1 i1) (fun _ => ?_))
      clear hK
      exact t5_10_11_ u5 u10 u11 w1 i1
  have t5_ : ∀ (u5 : Value) w', I5_ u5 w' → wpAnyH P .any #[o0, o1, o2, o3, o4, o5, o6, o7, o8, o9, o10, o11, o12] (NoPanic Q) S 3 #[true, true, true, true, true, true, true, true, true, true, false, false, false] (B.put o5.dst u5) w' := by
    intro u5 w0 i0
    refine wpAnyH_ready (rs := [10]) q5_ (by simp) (AllReadyH.cons (o := o10) rfl (fun K hK => ?_) AllReadyH.nil)
    · rw [if_pos (wa10 _)]
      refine s5_10 u5 w0 i0 K (fun u10 w1 i1 => hK.out _ _ (z5_10_ u5 u10 w1 i1) (fun _ => ?_))
      clear hK
      exact t5_10_ u5 u10 w1 i1
  have t_ : ∀ w', I_  w' → wpAnyH P .any #[o0, o1, o2, o3, o4, o5, o6, o7, o8, o9, o10, o11, o12] (NoPanic Q) S 4 #[true, true, true, true, true, false, true, true, true, true, false, false, false] B w' := by
    intro w0 i0
    refine wpAnyH_ready (rs := [5]) q_ (by simp) (AllReadyH.cons (o := o5) rfl (fun K hK => ?_) AllReadyH.nil)
    · rw [if_pos (wa5 _)]
      refine s_5  w0 i0 K (fun u5 w1 i1 => hK.out _ _ (z5_ u5 w1 i1) (fun _ => ?_))
      clear hK
      exact t5_ u5 w1 i1
  exact t_ w.drew i0

end
end Go.Proofs.YtecadmldnjlibaaDoor
namespace Go.Proofs.YtecadmldnjlibaaDoor
open Go.RowKit Go.BigFrame
set_option linter.unusedVariables false
set_option linter.unusedSimpArgs false

theorem RdD.fromT {w : World} {b off n c m c' off' : Nat} {ds : List (List Nat)} (h : RdD w (.slice (some ⟨b, off, none⟩) n c) ds) (hm : m ≤ n) (hc' : n - m ≤ c' ∧ c' ≤ 9223372036854775807) (ho : m < n → off' = off + m * 32) : RdD w (.slice (some ⟨b, off', none⟩) (n - m) c') (ds.drop m) := by
  obtain ⟨_, _, _, e, h1, h2, h3, h4, h5⟩ := h
  cases e
  refine ⟨_, n - m, c', rfl, by simp [h1], hc'.1, hc'.2, fun d hd => h4 d (List.mem_of_mem_drop hd), fun hp => ?_⟩
  obtain ⟨b', o', e, hc⟩ := h5 (by omega)
  cases e
  have ho2 := ho (by omega)
  subst ho2
  refine ⟨_, _, rfl, fun i hi => ?_⟩
  have h9 := hc (m + i) (by omega)
  rw [show off + (m + i) * 32 = off + m * 32 + i * 32 by omega] at h9
  rw [List.getD_eq_getElem?_getD, List.getElem?_drop, ← List.getD_eq_getElem?_getD]
  exact h9

set_option maxRecDepth 100000 in
set_option maxHeartbeats 400000 in
theorem below_any (k : Nat) (w : World) (h2 : 2 ≤ k) (hk : k < 4611686018427387904) :
    Calls Tryd.prog 39 #[.int .u64 k] w fun e w' => e = .returned (.int .u64 (belT k)) ∧ w' = w := by
  have hs : IntKind.u64.wrap ((k : Int) - 1) = ((k - 1 : Nat) : Int) := by rw [wrU]; omega
  have HB := hide (fun j (h : 2 ^ j ≤ k - 1) (h' : k - 1 < 2 ^ (j + 1)) => (by unfold belT; rw [(Nat.log2_eq_iff (by omega)).2 ⟨h, h'⟩] : belT k = 2 ^ j))
  obtain ⟨k1, hk1⟩ : ∃ k1, k - 1 = k1 := ⟨_, rfl⟩
  rw [hk1] at hs HB
  have h1 : 1 ≤ k1 := by omega
  have h3 : k1 < 4611686018427387904 := by omega
  obtain ⟨B, hBe⟩ : ∃ B, belT k = B := ⟨_, rfl⟩
  rw [hBe] at HB ⊢
  clear hBe hk1
  go_enter Tryd.func39, Tryd.ntmps39
  go_wp2_with fail
  go_loopw [3] (fun t3 wr => ∃ (m : Nat), t3 = .int .u64 (m : Int) ∧ 1 ≤ m ∧ m ≤ k1 ∧ Hid (∃ j, m = 2 ^ j) ∧ wr = w) (fun t _ => k1 - (intOf t).toNat)
  case atStart => exact ⟨1, rfl, by omega, by omega, hide ⟨0, rfl⟩, rfl⟩
  case round =>
    obtain ⟨m, rfl, hm1, hm2, HJ, rfl⟩ := hrel
    by_cases hle : 2 * m ≤ k1
    · have hle' : (m : Int) ≤ (k1 : Int) / 2 := by omega
      have hmul : IntKind.u64.wrap ((m : Int) * 2) = ((2 * m : Nat) : Int) := by rw [wrU]; omega
      have HJ2 := hide (by obtain ⟨j, hj⟩ := unhide HJ; exact ⟨j + 1, by rw [Nat.pow_succ]; omega⟩ : ∃ j, 2 * m = 2 ^ j)
      go_wp2_with (first | simp only [hs] | simp only [hmul])
      refine ⟨⟨2 * m, rfl, by omega, by omega, HJ2, by trivial⟩, ?_⟩
      simp [intOf]
      omega
    · have hle' : ¬ (m : Int) ≤ (k1 : Int) / 2 := by omega
      have HE := hide (by obtain ⟨j, hj⟩ := unhide HJ; rw [hj]; exact unhide HB j (by omega) (by rw [Nat.pow_succ]; omega) : B = m)
      go_wp2_with (simp only [hs])
      go_ret
      exact ⟨by rw [unhide HE]; rfl, rfl⟩

set_option maxRecDepth 100000 in
set_option maxHeartbeats 400000 in
theorem logR_nil (k : Nat) (hk : 1 ≤ k ∧ k ≤ 32) (v : Value) (w : World) (hv : RdD w v []) :
    Calls Tryd.prog 18 #[.int .i64 k, v] w fun e w' => e = .returned (.agg (brow (noT k))) ∧ Kept [] w w' := by
  obtain ⟨ao, len, cap, rfl, h1, h2, h3, h4, h5⟩ := hv
  simp at h1
  subst h1
  have HZ := hide (heap_alloc_new w (.cells (zb 32) 41))
  have HK := hide ((Kept.refl [] w).alloc (.cells (zb 32) 41))
  have e : noT (k : Int) = cutL k (hash []) := by unfold noT sumD; rw [if_pos (by simp [widthB]; omega), Int.toNat_natCast]
  have HNO := hide (refNoLog_any k (w.alloc (.cells (zb 32) 41)) (by omega))
  rw [← e] at HNO
  have hdl := (noT_dg (k : Int)).1
  generalize noT (k : Int) = D at HNO hdl ⊢
  clear h4 h5 e
  go_enter Tryd.func18, Tryd.ntmps18
  go_wp2_with fail
  rw [zb32]
  refine (unhide HNO).mono ?_
  rintro e w5 ⟨rfl, k5⟩
  have HZ5 := hide (k5.heap (unhide HZ) (by simp))
  have HK5 := hide (((unhide HK).trans k5 (by simp)).setRow (g := w.heap.size) (Or.inr (Nat.le_refl _)) (brow D))
  clear k5
  go_wp2_with (refine wpList_store_row rfl 41 _ _ rfl w.heap.size (brow D) rfl rfl _ (zb 32) (unhide HZ5) (by rw [brow_size, hdl]; exact Tryd.size_dig) (by rw [zb_size, brow_size, hdl]) (brow_one _) ?_)
  refine bodyPost_ret (v := .agg (brow D)) ?_ rfl ⟨rfl, unhide HK5⟩
  exact results_cell_row rfl _ _ w.heap.size _ (brow D) (0, 0) _ rfl (setRow_heap _ _ _ _ _ _ (unhide HZ5)) Tryd.underlying41 rfl (by rw [brow_size, hdl]; exact Tryd.size_dig)

set_option maxRecDepth 100000 in
set_option maxHeartbeats 400000 in
theorem logR_one (k : Nat) (v : Value) (d : List Nat) (w : World) (hv : RdD w v [d]) :
    Calls Tryd.prog 18 #[.int .i64 k, v] w fun e w' => e = .returned (.agg (brow d)) ∧ Kept [] w w' := by
  obtain ⟨ao, len, cap, rfl, h1, h2, h3, h4, h5⟩ := hv
  simp at h1
  subst h1
  obtain ⟨b, o, rfl, hcell⟩ := h5 (by omega)
  have hdl := (h4 d (by simp)).1
  have k0 := (Kept.refl [] w).alloc (.cells (zb 32) 41)
  have HRG := hide (fun j u hj => k0.cell (by have := hcell 0 (by omega) j u hj; simpa using this) (by simp) : (w.alloc (.cells (zb 32) 41)).rangeAt b o (d.map u8))
  have HZ := hide (heap_alloc_new w (.cells (zb 32) 41))
  have HK := hide (k0.setRow (g := w.heap.size) (Or.inr (Nat.le_refl _)) (brow d))
  clear h4 h5 hcell k0
  go_enter Tryd.func18, Tryd.ntmps18
  go_wp2_with (first
    | (rw [zb32]; refine wpList_load_mid rfl 41 (.tmp 15) rfl b o rfl (d.map Go.Proofs.YtecadmldnjlibaaDoor.u8) _ (unhide HRG) Tryd.underlying41 rfl (by rw [List.length_map, hdl]; exact Tryd.size_dig) ?_)
    | (refine wpList_store_row rfl 41 _ _ rfl w.heap.size (brow d) rfl rfl _ (zb 32) (unhide HZ) (by rw [brow_size, hdl]; exact Tryd.size_dig) (by rw [zb_size, brow_size, hdl]) (brow_one _) ?_))
  refine bodyPost_ret (v := .agg (brow d)) ?_ rfl ⟨rfl, unhide HK⟩
  exact results_cell_row rfl _ _ w.heap.size _ (brow d) (0, 0) _ rfl (setRow_heap _ _ _ _ _ _ (unhide HZ)) Tryd.underlying41 rfl (by rw [brow_size, hdl]; exact Tryd.size_dig)

set_option maxRecDepth 100000 in
set_option maxHeartbeats 1000000 in
theorem logR_any (k : Nat) (hk : 1 ≤ k ∧ k ≤ 32) : ∀ (f : Nat) (v : Value) (ls : List (List Nat)) (w : World), ls.length ≤ f → ls.length < 4611686018427387904 → RdD w v ls →
    Calls Tryd.prog 18 #[.int .i64 k, v] w fun e w' => e = .returned (.agg (brow (logT k (noT k) ls))) ∧ Kept [] w w' := by
  intro f
  induction f with
  | zero =>
    intro v ls w h1 _ hv
    have : ls = [] := List.eq_nil_of_length_eq_zero (by omega)
    subst this
    exact logR_nil k hk v w hv
  | succ f ih =>
    intro v ls w hf hl hv
    by_cases h0 : ls.length = 0
    · have : ls = [] := List.eq_nil_of_length_eq_zero h0
      subst this
      exact logR_nil k hk v w hv
    · by_cases h1 : ls.length = 1
      · obtain ⟨x, rfl⟩ : ∃ x, ls = [x] := by
          cases ls with
          | nil => simp at h1
          | cons x r => cases r with
            | nil => exact ⟨x, rfl⟩
            | cons y r => simp at h1
        exact logR_one k v x w hv
      · have hn2 : 2 ≤ ls.length := by omega
        have hbl := belT_lt hn2
        have HDg := hide (fun l => log_dg k (noT k) l (noT_dg k))
        have hdm : ∀ d ∈ ls, Dg d := fun d hd => hv.dg hd
        have HV := hide hv
        obtain ⟨ao, len, cap, rfl, e1, h2, h3, h4, h5⟩ := hv
        obtain ⟨b, o, rfl, _⟩ := h5 (by omega)
        have HCUT := hide (logT_cut (k : Int) (noT k) ls hn2)
        have HBE := hide (fun W => below_any ls.length W hn2 hl)
        have d1 := log_dg (k : Int) (noT k) (ls.take (belT ls.length)) (noT_dg k) (fun d hd => hdm d (List.mem_of_mem_take hd))
        have d2 := log_dg (k : Int) (noT k) (ls.drop (belT ls.length)) (noT_dg k) (fun d hd => hdm d (List.mem_of_mem_drop hd))
        have HR1 := hide (fun W (kk : Kept [] w W) => ih (.slice (some ⟨b, o, none⟩) (belT ls.length) cap) (ls.take (belT ls.length)) W (by rw [List.length_take]; omega) (by rw [List.length_take]; omega) ((RdD.upto (unhide HV) (belT ls.length) (by omega)).old kk))
        have HR2 := hide (fun W (kk : Kept [] w W) => ih (.slice (some ⟨b, o + belT ls.length * 32, none⟩) (ls.length - belT ls.length) (cap - belT ls.length)) (ls.drop (belT ls.length)) W (by rw [List.length_drop]; omega) (by rw [List.length_drop]; omega) ((by have h9 := RdD.fromT (m := belT ls.length) (off' := o + belT ls.length * 32) (c' := cap - belT ls.length) (unhide HV) (by omega) (by omega) (fun _ => rfl); rw [← e1] at h9; exact h9 : RdD w _ _).old kk))
        have HND := hide (fun W => refNode_any k _ _ W hk d1 d2)
        have hD := (nodS_dg (k : Int) (logT k (noT k) (ls.take (belT ls.length))) (logT k (noT k) (ls.drop (belT ls.length)))).1
        have HE := hide (unhide HCUT : logT (k : Int) (noT k) ls = nodS k (logT k (noT k) (ls.take (belT ls.length))) (logT k (noT k) (ls.drop (belT ls.length))))
        rw [unhide HE]
        generalize nodS (k : Int) (logT k (noT k) (ls.take (belT ls.length))) (logT k (noT k) (ls.drop (belT ls.length))) = D at HND hD ⊢
        generalize logT (k : Int) (noT k) (ls.take (belT ls.length)) = D1 at HR1 HND d1
        generalize logT (k : Int) (noT k) (ls.drop (belT ls.length)) = D2 at HR2 HND d2
        generalize belT ls.length = m at HR1 HR2 HBE hbl
        subst e1
        obtain ⟨n, hn⟩ : ∃ n, ls.length = n := ⟨_, rfl⟩
        rw [hn] at HR2 HBE hbl h2 hl hn2 h0 h1 ⊢
        have hwn : IntKind.u64.wrap (n : Int) = (n : Int) := by rw [wrU]; omega
        have k0 := (Kept.refl [] w).alloc (.cells (zb 32) 41)
        have HZ := hide (heap_alloc_new w (.cells (zb 32) 41))
        have HK := hide k0
        have hSZ := hide (by rw [brow_size, hD]; exact Tryd.size_dig : (Tryd.prog.info? 41).map (·.size) = some (brow D).size)
        have q0 : ¬ (n : Int) = 0 := by omega
        have q1 : ¬ (n : Int) = 1 := by omega
        have q2 : ¬ (m : Int) < 0 := by omega
        have q3 : ¬ (cap : Int) < m := by omega
        have q4 : ¬ (n : Int) < m := by omega
        have q5 : ¬ cap = m := by omega
        have q6 : ¬ (cap : Int) = m := by omega
        have q7 : ¬ m = cap := by omega
        clear h4 h5 HV HDg hdm HCUT HE ih k0 h0 h1 hf
        go_enter Tryd.func18, Tryd.ntmps18
        go_wp2_with (simp only [hwn])
        rw [zb32]
        refine (unhide HBE _).mono ?_
        rintro e w1 ⟨rfl, rfl⟩
        go_wp2_with fail
        obtain ⟨X, hX⟩ : ∃ X, w.alloc (.cells (zb 32) 41) = X := ⟨_, rfl⟩
        rw [hX] at HZ HK ⊢
        clear hX
        refine wp_lo13 (by kernel_rfl) (by kernel_rfl) (by kernel_rfl) (by kernel_rfl) (by kernel_rfl) (by kernel_rfl) (by kernel_rfl) (by kernel_rfl) (by kernel_rfl) (by kernel_rfl) (by kernel_rfl) (by kernel_rfl) (by kernel_rfl) (by kernel_rfl) (by kernel_rfl) (by kernel_rfl) (by kernel_rfl) (by kernel_rfl) (by kernel_rfl) (by kernel_rfl) (by kernel_rfl) (by kernel_rfl) (by kernel_rfl) (by kernel_rfl) (by kernel_rfl) rfl rfl rfl rfl
          (.int .i64 (k : Int)) (.int .i64 (k : Int)) (.slice (some ⟨b, o, none⟩) n cap) (.int .u64 (m : Int)) (.slice (some ⟨b, o, none⟩) m cap) (.int .i64 (k : Int)) (.slice (some ⟨b, o, none⟩) n cap) (.int .u64 (m : Int)) (.slice (some ⟨b, o + m * 32, none⟩) (n - m) (cap - m)) _ _ _ _ _ _ _ _ _
          (fun w' => Kept [w.heap.size] X w')
          (fun w' => Kept [] X w')
          (fun u w' => u = .agg (brow D1) ∧ Kept [] X w')
          (fun u y w' => u = .agg (brow D1) ∧ y = .agg (brow D2) ∧ Kept [] X w')
          (fun u y x w' => u = .agg (brow D1) ∧ y = .agg (brow D2) ∧ x = .agg (brow D) ∧ Kept [] X w')
          (fun u y x q w' => w'.heap[w.heap.size]? = some (.cells (brow D) 41 (0, 0)) ∧ Kept [w.heap.size] X w')
          (by simp only [Act.put, List.setIfInBounds_toArray, List.set_cons_zero, List.set_cons_succ]; rfl) (by exact Or.inl ⟨by rfl, fun W' hW' => by go_simp⟩)
          (by simp only [Act.put, List.setIfInBounds_toArray, List.set_cons_zero, List.set_cons_succ]; rfl) (by exact Or.inl ⟨by rfl, fun W' hW' => by go_simp⟩)
          (by simp only [Act.put, List.setIfInBounds_toArray, List.set_cons_zero, List.set_cons_succ]; rfl) (by exact Or.inl ⟨by rfl, fun W' hW' => by go_simp⟩)
          (by simp only [Act.put, List.setIfInBounds_toArray, List.set_cons_zero, List.set_cons_succ]; rfl) (by exact Or.inl ⟨by rfl, fun W' hW' => by go_simp⟩)
          (by simp only [Act.put, List.setIfInBounds_toArray, List.set_cons_zero, List.set_cons_succ]; rfl) (by exact Or.inl ⟨by rfl, fun W' hW' => by go_simp⟩)
          (by simp only [Act.put, List.setIfInBounds_toArray, List.set_cons_zero, List.set_cons_succ]; rfl) (by exact Or.inl ⟨by rfl, fun W' hW' => by go_simp⟩)
          (by simp only [Act.put, List.setIfInBounds_toArray, List.set_cons_zero, List.set_cons_succ]; rfl) (by exact Or.inl ⟨by rfl, fun W' hW' => by go_simp⟩)
          (by simp only [Act.put, List.setIfInBounds_toArray, List.set_cons_zero, List.set_cons_succ]; rfl) (by exact Or.inl ⟨by rfl, fun W' hW' => by go_simp⟩)
          (by simp only [Act.put, List.setIfInBounds_toArray, List.set_cons_zero, List.set_cons_succ]; rfl) (by exact Or.inl ⟨by rfl, fun W' hW' => by go_simp⟩)
          (Kept.refl [] X).drew
          ⟨fun w' h => h.mono (by simp), fun u w' h => h.2.mono (by simp), fun u y w' h => h.2.2.mono (by simp), fun u y x w' h => h.2.2.2.mono (by simp), fun u y x q w' h => h.2⟩
          (by intro w' i K hK; exact wp_callN rfl Tryd.call18 [.int .i64 (k : Int), .slice (some ⟨b, o, none⟩) m cap] rfl (unhide HR1 w' ((unhide HK).trans i (by simp))) (fun e w2 h => ⟨_, h.1, hK _ _ ⟨rfl, i.trans h.2 (by simp)⟩⟩))
          (by rintro u w' ⟨rfl, i⟩ K hK; exact wp_callN rfl Tryd.call18 [.int .i64 (k : Int), .slice (some ⟨b, o + m * 32, none⟩) (n - m) (cap - m)] rfl (unhide HR2 w' ((unhide HK).trans i (by simp))) (fun e w2 h => ⟨_, h.1, hK _ _ ⟨rfl, rfl, i.trans h.2 (by simp)⟩⟩))
          (by
            intro u y w' hh K hK
            simp only [Act.put, List.setIfInBounds_toArray, List.set_cons_zero, List.set_cons_succ] at hK ⊢
            obtain ⟨rfl, rfl, i⟩ := hh
            exact wp_callN rfl Tryd.call30 [.int .i64 (k : Int), .agg (brow D1), .agg (brow D2)] rfl (unhide HND w') (fun e w2 h => ⟨_, h.1, hK _ _ ⟨rfl, rfl, rfl, i.trans h.2 (by simp)⟩⟩))
          (by
            intro u y x w' hh K hK
            simp only [Act.put, List.setIfInBounds_toArray, List.set_cons_zero, List.set_cons_succ] at hK ⊢
            obtain ⟨rfl, rfl, rfl, i⟩ := hh
            exact wp_store_row 41 _ _ rfl w.heap.size (brow D) rfl rfl _ (zb 32) (i.heap (unhide HZ) (by simp)) (unhide hSZ) (by rw [zb_size, brow_size, hD]) (brow_one _) (hK undef _ ⟨setRow_heap _ _ _ _ _ _ (i.heap (unhide HZ) (by simp)), (i.mono (by simp)).setRow (Or.inl (by simp)) _⟩))
          ?_
        rintro u y x1 q Y ⟨hrow, kY⟩
        simp only [Act.put, List.setIfInBounds_toArray, List.set_cons_zero, List.set_cons_succ]
        have HRY := hide hrow
        have HKY := hide ((unhide HK).trans kY (by simp))
        clear hrow kY
        go_wp2_with fail
        refine bodyPost_ret (v := .agg (brow D)) ?_ rfl ⟨rfl, unhide HKY⟩
        exact results_cell_row rfl _ _ w.heap.size _ (brow D) (0, 0) _ rfl (unhide HRY) Tryd.underlying41 rfl (unhide hSZ)

set_option maxRecDepth 100000 in
set_option maxHeartbeats 400000 in
theorem docRange_bad (k : Nat) (v : Value) (ls : List (List Nat)) (lo hi : Nat) (w : World) (hv : RdD w v ls) (hbad : hi < lo ∨ ls.length < hi) (hl : ls.length < 4611686018427387904) :
    Calls Tryd.prog 33 #[.int .i64 k, v, .int .u64 lo, .int .u64 hi] w fun e w' => e = .returned (.tuple #[.agg (zb 32), .int .i64 4]) ∧ Kept [] w w' := by
  obtain ⟨ao, len, cap, rfl, rfl, h2, h3, h4, h5⟩ := hv
  have HZ := hide (heap_alloc_new w (.cells (zb 32) 41))
  have HK := hide (((Kept.refl [] w).alloc (.cells (zb 32) 41)).setRow (g := w.heap.size) (Or.inr (Nat.le_refl _)) (zb 32))
  have hwn : IntKind.u64.wrap (ls.length : Int) = (ls.length : Int) := by rw [wrU]; omega
  clear h4 h5
  by_cases h1 : hi < lo
  · have h1' : (hi : Int) < lo := by omega
    go_enter Tryd.func33, Tryd.ntmps33
    go_wp2_with (first | simp only [hwn] | (rw [zb32]; refine wpList_store_row rfl 41 _ _ rfl w.heap.size (zb 32) rfl rfl _ (zb 32) (unhide HZ) (by rw [zb_size]; exact Tryd.size_dig) rfl (brow_one _) ?_))
    refine bodyPost_ret (v := .tuple #[.agg (zb 32), .int .i64 4]) ?_ rfl ⟨rfl, unhide HK⟩
    exact results_cell_tmp rfl _ _ w.heap.size _ (zb 32) (0, 0) _ rfl (setRow_heap _ _ _ _ _ _ (unhide HZ)) Tryd.underlying41 rfl (by rw [zb_size]; exact Tryd.size_dig) _ rfl
  · have h1' : ¬ (hi : Int) < lo := by omega
    have h2' : (ls.length : Int) < hi := by omega
    go_enter Tryd.func33, Tryd.ntmps33
    go_wp2_with (first | simp only [hwn] | (rw [zb32]; refine wpList_store_row rfl 41 _ _ rfl w.heap.size (zb 32) rfl rfl _ (zb 32) (unhide HZ) (by rw [zb_size]; exact Tryd.size_dig) rfl (brow_one _) ?_))
    refine bodyPost_ret (v := .tuple #[.agg (zb 32), .int .i64 4]) ?_ rfl ⟨rfl, unhide HK⟩
    exact results_cell_tmp rfl _ _ w.heap.size _ (zb 32) (0, 0) _ rfl (setRow_heap _ _ _ _ _ _ (unhide HZ)) Tryd.underlying41 rfl (by rw [zb_size]; exact Tryd.size_dig) _ rfl

/-- A piece of a list of digests: where it begins counts only if it is not empty. -/
theorem RdD.piece {w : World} {ao : Option Addr} {n c lo hi c' : Nat} {ds : List (List Nat)} (h : RdD w (.slice ao n c) ds) (h1 : lo ≤ hi) (h2 : hi ≤ n) (hc' : hi - lo ≤ c' ∧ c' ≤ 9223372036854775807) (ao' : Option Addr) (ho : lo < hi → ∀ b off, ao = some ⟨b, off, none⟩ → ao' = some ⟨b, off + lo * 32, none⟩) : RdD w (.slice ao' (hi - lo) c') ((ds.drop lo).take (hi - lo)) := by
  obtain ⟨_, _, _, e, e1, e2, e3, h4, h5⟩ := h
  cases e
  refine ⟨_, hi - lo, c', rfl, by rw [List.length_take, List.length_drop]; omega, hc'.1, hc'.2, fun d hd => h4 d (List.mem_of_mem_drop (List.mem_of_mem_take hd)), fun hp => ?_⟩
  obtain ⟨b', o', e, hc⟩ := h5 (by omega)
  refine ⟨b', o' + lo * 32, ho (by omega) b' o' e, fun i hi => ?_⟩
  have h9 := hc (lo + i) (by omega)
  rw [show o' + (lo + i) * 32 = o' + lo * 32 + i * 32 by omega] at h9
  rw [List.getD_eq_getElem?_getD, List.getElem?_take_of_lt hi, List.getElem?_drop, ← List.getD_eq_getElem?_getD]
  exact h9

set_option maxRecDepth 100000 in
set_option maxHeartbeats 400000 in
theorem docRange_any (k : Nat) (hk : 1 ≤ k ∧ k ≤ 32) (v : Value) (ls : List (List Nat)) (lo hi : Nat) (w : World) (hv : RdD w v ls) (h1 : lo ≤ hi) (h2 : hi ≤ ls.length) (hl : ls.length < 4611686018427387904) :
    Calls Tryd.prog 33 #[.int .i64 k, v, .int .u64 lo, .int .u64 hi] w fun e w' => e = .returned (.tuple #[.agg (brow (rngD k (noT k) ls lo hi)), .int .i64 0]) ∧ Kept [] w w' := by
  have HV := hide hv
  have hdl := (log_dg (k : Int) (noT k) ((ls.drop lo).take (hi - lo)) (noT_dg k) (fun d hd => hv.dg (List.mem_of_mem_drop (List.mem_of_mem_take hd)))).1
  obtain ⟨ao, len, cap, rfl, rfl, e2, e3, h4, h5⟩ := hv
  have HZ := hide (heap_alloc_new w (.cells (zb 32) 41))
  have k0 := (Kept.refl [] w).alloc (.cells (zb 32) 41)
  have HK := hide k0
  have hwn : IntKind.u64.wrap (ls.length : Int) = (ls.length : Int) := by rw [wrU]; omega
  have q1 : ¬ (hi : Int) < lo := by omega
  have q2 : ¬ (ls.length : Int) < hi := by omega
  have q3 : ¬ (cap : Int) < hi := by omega
  have q4 : ¬ (lo : Int) < 0 := by omega
  have q5 : ¬ (hi : Int) < 0 := by omega
  have HLG := hide (fun (ao' : Option Addr) (ho : lo < hi → ∀ b off, ao = some ⟨b, off, none⟩ → ao' = some ⟨b, off + lo * 32, none⟩) => logR_any k hk (hi - lo) (.slice ao' (hi - lo) (cap - lo)) ((ls.drop lo).take (hi - lo)) (w.alloc (.cells (zb 32) 41)) (by rw [List.length_take]; omega) (by rw [List.length_take]; omega) ((RdD.piece (c' := cap - lo) (unhide HV) h1 h2 (by omega) ao' ho).old k0))
  have hlog : logT (k : Int) (noT k) ((ls.drop lo).take (hi - lo)) = rngD k (noT k) ls lo hi := rfl
  rw [hlog] at HLG hdl
  generalize rngD (k : Int) (noT k) ls lo hi = D at HLG hdl ⊢
  clear h4 h5 hlog HV k0
  generalize ls.length = n at *
  by_cases hcl : cap = lo
  · have HLG2 := hide (unhide HLG ao (fun h => by omega))
    rw [show cap - lo = 0 by omega] at HLG2
    have hcl' : (cap : Int) = lo := by omega
    go_enter Tryd.func33, Tryd.ntmps33
    go_wp2_with (simp only [hwn])
    rw [zb32]
    refine (unhide HLG2).mono ?_
    rintro e w5 ⟨rfl, k5⟩
    have HZ5 := hide (k5.heap (unhide HZ) (by simp))
    have HK5 := hide (((unhide HK).trans k5 (by simp)).setRow (g := w.heap.size) (Or.inr (Nat.le_refl _)) (brow D))
    clear k5
    go_wp2_with (refine wpList_store_row rfl 41 _ _ rfl w.heap.size (brow D) rfl rfl _ (zb 32) (unhide HZ5) (by rw [brow_size, hdl]; exact Tryd.size_dig) (by rw [zb_size, brow_size, hdl]) (brow_one _) ?_)
    refine bodyPost_ret (v := .tuple #[.agg (brow D), .int .i64 0]) ?_ rfl ⟨rfl, unhide HK5⟩
    exact results_cell_tmp rfl _ _ w.heap.size _ (brow D) (0, 0) _ rfl (setRow_heap _ _ _ _ _ _ (unhide HZ5)) Tryd.underlying41 rfl (by rw [brow_size, hdl]; exact Tryd.size_dig) _ rfl
  · have HLG2 := hide (unhide HLG (Option.map (fun x => x.add (lo * 32)) ao) (fun _ b off e => by rw [e]; simp [Addr.add_mid]))
    have hcl' : ¬ (cap : Int) = lo := by omega
    have hcl2 : ¬ lo = cap := by omega
    go_enter Tryd.func33, Tryd.ntmps33
    go_wp2_with (simp only [hwn])
    rw [zb32]
    refine (unhide HLG2).mono ?_
    rintro e w5 ⟨rfl, k5⟩
    have HZ5 := hide (k5.heap (unhide HZ) (by simp))
    have HK5 := hide (((unhide HK).trans k5 (by simp)).setRow (g := w.heap.size) (Or.inr (Nat.le_refl _)) (brow D))
    clear k5
    go_wp2_with (refine wpList_store_row rfl 41 _ _ rfl w.heap.size (brow D) rfl rfl _ (zb 32) (unhide HZ5) (by rw [brow_size, hdl]; exact Tryd.size_dig) (by rw [zb_size, brow_size, hdl]) (brow_one _) ?_)
    refine bodyPost_ret (v := .tuple #[.agg (brow D), .int .i64 0]) ?_ rfl ⟨rfl, unhide HK5⟩
    exact results_cell_tmp rfl _ _ w.heap.size _ (brow D) (0, 0) _ rfl (setRow_heap _ _ _ _ _ _ (unhide HZ5)) Tryd.underlying41 rfl (by rw [brow_size, hdl]; exact Tryd.size_dig) _ rfl

/-- What DocRange answers. -/
theorem docRange_all (k : Nat) (hk : 1 ≤ k ∧ k ≤ 32) (v : Value) (ls : List (List Nat)) (lo hi : Nat) (w : World) (hv : RdD w v ls) (hl : ls.length < 4611686018427387904) :
    Calls Tryd.prog 33 #[.int .i64 k, v, .int .u64 lo, .int .u64 hi] w fun e w' => e = .returned (.tuple #[.agg (brow (rgD k ls lo hi)), .int .i64 (rgE ls lo hi)]) ∧ Kept [] w w' := by
  unfold rgD rgE
  by_cases h : hi < lo ∨ ls.length < hi
  · rw [if_pos h, if_pos h]
    exact docRange_bad k v ls lo hi w hv h hl
  · rw [if_neg h, if_neg h]
    exact docRange_any k hk v ls lo hi w hv (by omega) (by omega) hl

set_option maxRecDepth 100000 in
set_option maxHeartbeats 400000 in
theorem docLeaf_all (v : Value) (ls : List (List Nat)) (i : Nat) (w : World) (hv : RdD w v ls) (hl : ls.length < 4611686018427387904) :
    Calls Tryd.prog 32 #[v, .int .u64 i] w fun e w' => e = .returned (.tuple #[.agg (brow (lfD ls i)), .int .i64 (lfE ls i)]) ∧ Kept [] w w' := by
  have HV := hide hv
  obtain ⟨ao, len, cap, rfl, rfl, e2, e3, h4, h5⟩ := hv
  have HZ := hide (heap_alloc_new w (.cells (zb 32) 41))
  have k0 := (Kept.refl [] w).alloc (.cells (zb 32) 41)
  have HK := hide k0
  have hwn : IntKind.u64.wrap (ls.length : Int) = (ls.length : Int) := by rw [wrU]; omega
  by_cases h : ls.length ≤ i
  · have e1 : lfD ls i = List.replicate 32 0 := if_pos h
    have e2 : lfE ls i = 4 := if_pos h
    rw [e1, e2]
    have h' : (ls.length : Int) ≤ i := by omega
    clear e1 e2 h h4 h5 k0
    show Calls Tryd.prog 32 #[.slice ao ls.length cap, .int .u64 i] w fun e w' => e = .returned (.tuple #[.agg (zb 32), .int .i64 4]) ∧ Kept [] w w'
    go_enter Tryd.func32, Tryd.ntmps32
    go_wp2_with (first | simp only [hwn] | (rw [zb32]; refine wpList_store_row rfl 41 _ _ rfl w.heap.size (zb 32) rfl rfl _ (zb 32) (unhide HZ) (by rw [zb_size]; exact Tryd.size_dig) rfl (brow_one _) ?_))
    refine bodyPost_ret (v := .tuple #[.agg (zb 32), .int .i64 4]) ?_ rfl ⟨rfl, (unhide HK).setRow (g := w.heap.size) (Or.inr (Nat.le_refl _)) (zb 32)⟩
    exact results_cell_tmp rfl _ _ w.heap.size _ (zb 32) (0, 0) _ rfl (setRow_heap _ _ _ _ _ _ (unhide HZ)) Tryd.underlying41 rfl (by rw [zb_size]; exact Tryd.size_dig) _ rfl
  · have e2 : lfE ls i = 0 := if_neg h
    have e1 : lfD ls i = ls.getD i [] := if_neg h
    rw [e1, e2]
    have h' : ¬ (ls.length : Int) ≤ i := by omega
    obtain ⟨b, o, rfl, hcell⟩ := h5 (by omega)
    have hdl := (h4 (ls.getD i []) (by rw [List.getD_eq_getElem?_getD, List.getElem?_eq_getElem (by omega)]; exact List.getElem_mem _)).1
    have HRG := hide (fun j u hj => k0.cell (hcell i (by omega) j u hj) (by simp) : (w.alloc (.cells (zb 32) 41)).rangeAt b (o + i * 32) ((ls.getD i []).map Go.Proofs.YtecadmldnjlibaaDoor.u8))
    generalize ls.getD i [] = d at HRG hdl ⊢
    clear e1 e2 h h4 h5 k0 hcell
    go_enter Tryd.func32, Tryd.ntmps32
    go_wp2_with (first
      | (simp only [hwn])
      | (rw [zb32]; refine wpList_load_mid rfl 41 _ rfl b (o + i * 32) rfl (d.map Go.Proofs.YtecadmldnjlibaaDoor.u8) _ (unhide HRG) Tryd.underlying41 rfl (by rw [List.length_map, hdl]; exact Tryd.size_dig) ?_)
      | (refine wpList_store_row rfl 41 _ _ rfl w.heap.size (brow d) rfl rfl _ (zb 32) (unhide HZ) (by rw [brow_size, hdl]; exact Tryd.size_dig) (by rw [zb_size, brow_size, hdl]) (brow_one _) ?_))
    refine bodyPost_ret (v := .tuple #[.agg (brow d), .int .i64 0]) ?_ rfl ⟨rfl, (unhide HK).setRow (g := w.heap.size) (Or.inr (Nat.le_refl _)) (brow d)⟩
    exact results_cell_tmp rfl _ _ w.heap.size _ (brow d) (0, 0) _ rfl (setRow_heap _ _ _ _ _ _ (unhide HZ)) Tryd.underlying41 rfl (by rw [brow_size, hdl]; exact Tryd.size_dig) _ rfl
end Go.Proofs.YtecadmldnjlibaaDoor
namespace Go.Proofs.YtecadmldnjlibaaDoor
open Go.RowKit Go.BigFrame
set_option linter.unusedVariables false
set_option linter.unusedSimpArgs false

set_option maxRecDepth 100000 in
set_option maxHeartbeats 4000000 in
theorem push_any (z : Int) (t N base : Nat) (v : Value) (ps : List Pk) (leaf : List Nat) (w : World) (hrow : w.heap[t]? = some (.cells #[.int .i64 z, .int .u64 (N : Int), v] 65 (0, 0))) (hown0 : w.ownsRow base 75 33 v ps.length (cellsK ps)) (hpk : PKs z w ps) (hNl : N = (leavesK ps).length) (hN : N ≤ 1000000000) (hbw : base ≤ w.heap.size) (hw : widthB z = true) (hfar : Far t v) (hl : Dg leaf) (hf : formB z leaf = true) (hT : Tabs w) (h6 : Tab6 w) :
    Calls Tryd.prog 36 #[.pointer (some ⟨t, 0, none⟩), .agg (brow leaf)] w fun e w' => e = .returned (.tuple #[]) ∧ PushD z t N base v ps leaf w w' := by
  have hnp : ps.length ≤ N := by have := len_le_sum (ps.reverse.map (·.h)); rw [hNl, leavesK_len hpk.ok]; simpa using this
  obtain ⟨n, hn0⟩ : ∃ n, ps.length = n := ⟨_, rfl⟩
  obtain ⟨xs, hxs0⟩ : ∃ xs, cellsK ps = xs := ⟨_, rfl⟩
  have hown : w.ownsRow base 75 33 v n xs := by rw [← hn0, ← hxs0]; exact hown0
  have hn : n ≤ 1000000000 := by omega
  have HV0 := hide (by
    intro b hb
    rcases hown.2 with ⟨h9, _⟩ | ⟨g, cap, cur, h1, h2, h3, _⟩
    · rw [h9] at hb; simp [Value.ownBlock] at hb
    · rw [h1] at hb; simp [Value.ownBlock] at hb; subst hb; exact ⟨_, _, h3⟩ : ∀ b, v.ownBlock = some b → ∃ cs m, w.heap[b]? = some (.cells cs 75 m))
  have hvb : ∀ b, v.ownBlock = some b → b < w.heap.size ∧ ¬ b = t := fun b hb => ⟨(hown.lt b hb).2, fun e => by
    obtain ⟨cs, m, h9⟩ := unhide HV0 b hb
    rw [e, hrow] at h9; simp at h9⟩
  have HT0 := hide (⟨_, _, hrow⟩ : ∃ cs m, w.heap[t]? = some (.cells cs 65 m))
  have HST := hide (fun (wr : World) g1 cap1 => PuRel.start (t := t) (v := v) (wr := wr) (g1 := g1) (cap1 := cap1) (base := base) hpk hNl hl hf)
  rw [hn0, hxs0] at HST
  have HTw := hide (fun (W : World) (k : Kept (t :: v.ownBlock.toList) w W) => hfar.tabs hT k)
  have H6w := hide (fun (W : World) (k : Kept (t :: v.ownBlock.toList) w W) => hfar.tab6 h6 k)
  clear hnp hn0 hxs0 hown0 hpk hNl hf hT h6 hfar
  have kX := (Kept.refl [] w).alloc (.cells (brow leaf) 41)
  have HGX := hide (heap_alloc_new w (.cells (brow leaf) 41))
  have HRX := hide (kX.heap hrow (by simp))
  have HOX := hide (kX.owns hown (by simp))
  have hXs : (w.alloc (.cells (brow leaf) 41)).heap.size = w.heap.size + 1 := by simp
  go_enter Tryd.func36, Tryd.ntmps36
  go_wp2_with fail
  obtain ⟨X, hX⟩ : ∃ X, w.alloc (.cells (brow leaf) 41) = X := ⟨_, rfl⟩
  rw [hX] at HGX HRX HOX hXs kX ⊢
  have HKX := hide kX
  clear hX kX
  have cq : X.cell? ⟨t, 2, none⟩ = some v := cell_of_row _ _ 2 _ _ _ (unhide HRX)
  have hlb : (brow leaf).size = 32 := by rw [brow_size, hl.1]
  refine wp_pu12 (by kernel_rfl) (by kernel_rfl) (by kernel_rfl) (by kernel_rfl) (by kernel_rfl) (by kernel_rfl) (by kernel_rfl) (by kernel_rfl) (by kernel_rfl) (by kernel_rfl) (by kernel_rfl) (by kernel_rfl) (by kernel_rfl) (by kernel_rfl) (by kernel_rfl) (by kernel_rfl) (by kernel_rfl) (by kernel_rfl) (by kernel_rfl) (by kernel_rfl) (by kernel_rfl) (by kernel_rfl) (by kernel_rfl) (by kernel_rfl) rfl (by kernel_rfl) rfl (by kernel_rfl) rfl (by kernel_rfl) rfl (by kernel_rfl) rfl (by kernel_rfl)
    (.pointer (some ⟨t, 0, none⟩)) (.pointer (some ⟨t, 0, none⟩)) (.pointer (some ⟨t, 0, none⟩)) (.pointer (some ⟨t, 2, none⟩)) v (.agg (brow leaf)) (.agg (partC leaf (.pointer none)).toArray) _ _ _ _ _ _ _
    (fun w' => Kept v.ownBlock.toList X w')
    (fun w' => Kept [] X w')
    (fun u0 w' => (∃ H, u0 = .slice (some ⟨H, 0, none⟩) 1 1 ∧ w'.heap[H]? = some (.cells (partC leaf (.pointer none)).toArray 75 (0, 0))) ∧ Kept [] X w')
    (fun u0 u1 w' => (∃ g cap, u1 = .slice (some ⟨g, 0, none⟩) (n + 1) cap ∧ w'.ownsRow base 75 33 (.slice (some ⟨g, 0, none⟩) (n + 1) cap) (n + 1) (xs ++ partC leaf (.pointer none)) ∧ (v.ownBlock = some g ∨ w.heap.size ≤ g)) ∧ Kept v.ownBlock.toList X w')
    (fun u0 u1 u2 w' => u2 = .pointer (some ⟨t, 0, none⟩) ∧ (∃ g cap, u1 = .slice (some ⟨g, 0, none⟩) (n + 1) cap ∧ w'.ownsRow base 75 33 (.slice (some ⟨g, 0, none⟩) (n + 1) cap) (n + 1) (xs ++ partC leaf (.pointer none)) ∧ (v.ownBlock = some g ∨ w.heap.size ≤ g)) ∧ Kept v.ownBlock.toList X w')
    (fun u0 u1 u2 u3 w' => u3 = .pointer (some ⟨t, 2, none⟩) ∧ u2 = .pointer (some ⟨t, 0, none⟩) ∧ (∃ g cap, u1 = .slice (some ⟨g, 0, none⟩) (n + 1) cap ∧ w'.ownsRow base 75 33 (.slice (some ⟨g, 0, none⟩) (n + 1) cap) (n + 1) (xs ++ partC leaf (.pointer none)) ∧ (v.ownBlock = some g ∨ w.heap.size ≤ g)) ∧ Kept v.ownBlock.toList X w')
    (fun u0 u1 u2 u3 w' => (∃ g cap, u1 = .slice (some ⟨g, 0, none⟩) (n + 1) cap ∧ w'.ownsRow base 75 33 (.slice (some ⟨g, 0, none⟩) (n + 1) cap) (n + 1) (xs ++ partC leaf (.pointer none)) ∧ (v.ownBlock = some g ∨ w.heap.size ≤ g) ∧ w'.heap[t]? = some (.cells #[.int .i64 z, .int .u64 (N : Int), .slice (some ⟨g, 0, none⟩) (n + 1) cap] 65 (0, 0))) ∧ Kept (t :: v.ownBlock.toList) X w')
    (by simp only [Act.put, List.setIfInBounds_toArray, List.set_cons_zero, List.set_cons_succ]; rfl) (by exact Or.inl ⟨by rfl, fun W' hW' => by go_simp⟩)
    (by simp only [Act.put, List.setIfInBounds_toArray, List.set_cons_zero, List.set_cons_succ]; rfl) (by exact Or.inl ⟨by rfl, fun W' hW' => by go_simp⟩)
    (by simp only [Act.put, List.setIfInBounds_toArray, List.set_cons_zero, List.set_cons_succ]; rfl) (by exact Or.inl ⟨by rfl, fun W' hW' => by go_simp⟩)
    (by simp only [Act.put, List.setIfInBounds_toArray, List.set_cons_zero, List.set_cons_succ]; rfl) (by exact Or.inl ⟨by rfl, fun W' hW' => by go_simp⟩)
    (by simp only [Act.put, List.setIfInBounds_toArray, List.set_cons_zero, List.set_cons_succ]; rfl) (by exact Or.inl ⟨by rfl, fun W' hW' => by have h9 := hW'.cell cq (by intro hm; simp only [Option.mem_toList] at hm; have := hvb _ hm; omega); go_simp⟩)
    (by simp only [Act.put, List.setIfInBounds_toArray, List.set_cons_zero, List.set_cons_succ]; rfl) (by
      refine Or.inl ⟨by rfl, fun W' hW' => ?_⟩
      have h9 := run_loadVar_row (P := Tryd.prog) W' w.heap.size 41 41 (brow leaf) (0, 0) _ (hW'.heap (unhide HGX) (by intro hm; simp only [Option.mem_toList] at hm; have := hvb _ hm; omega)) Tryd.underlying41 rfl (by rw [hlb]; exact Tryd.size_dig)
      unfold execOp
      simp only [Instr.loadAt, Instr.sureAddr, Sem.run_bind, Sem.run_pure, Result.andThen_ok]
      change ((Sem.run Tryd.prog (loadVar 41 ⟨w.heap.size, 0, none⟩) W').andThen fun a w' => Result.ok (Next.value a) w') = _
      rw [h9]
      rfl)
    (by simp only [Act.put, List.setIfInBounds_toArray, List.set_cons_zero, List.set_cons_succ]; rfl) (by
      refine Or.inl ⟨by rfl, fun W' hW' => ?_⟩
      unfold execOp
      go_simp
      exact build_part leaf hl.1)
    (Kept.refl [] X).drew
    ⟨fun w' h => h.mono (by simp), fun u0 w' h => h.2.mono (by simp), fun u0 u1 w' h => h.2, fun u0 u1 u2 w' h => h.2.2, fun u0 u1 u2 u3 w' h => h.2.2.2⟩
    (by
      intro w' i K hK
      have hp33 := partC_len (k := .pointer none) hl.1
      have hb1 := hide (build_one leaf (.pointer none) hl.1)
      unfold Oper.wp execOp
      go_simp
      exact hK _ _ ⟨⟨_, rfl, (heap_alloc_new w' _).trans (by rw [← unhide hb1]; rfl)⟩, i.alloc _⟩)
    (by
      rintro u0 w' ⟨⟨H, rfl, hH⟩, i⟩ K hK
      obtain ⟨g, cap, w1, hrun, h3, h4, h5⟩ := pushK w' base v n xs leaf (.pointer none) H (i.owns (unhide HOX) (by simp)) hH hl.1 rfl (by omega) (by have := i.size; omega)
      exact wp_appendT rfl rfl rfl rfl hrun (hK _ _ ⟨⟨_, _, rfl, h3, h5.elim Or.inl (fun e => Or.inr (by have := i.size; omega))⟩, (i.mono (by simp)).grown h4 (by intro k hk; left; simp [hk])⟩))
    (by rintro u0 u1 w' ⟨⟨g, cap, rfl, h3, h8⟩, i⟩ K hK; unfold Oper.wp execOp; go_simp; exact hK _ _ ⟨rfl, ⟨_, _, rfl, h3, h8⟩, i⟩)
    (by rintro u0 u1 u2 w' ⟨rfl, ⟨g, cap, rfl, h3, h8⟩, i⟩ K hK; unfold Oper.wp execOp; go_simp; exact hK _ _ ⟨rfl, rfl, ⟨_, _, rfl, h3, h8⟩, i⟩)
    (by
      rintro u0 u1 u2 u3 w' ⟨rfl, rfl, ⟨g, cap, rfl, h3, h8⟩, i⟩ K hK
      have hq := i.heap (unhide HRX) (by intro hm; simp only [Option.mem_toList] at hm; have := hvb _ hm; omega)
      have cq9 := cell_of_row _ _ 2 _ _ _ hq
      have fz9 : w'.frozen? ⟨t, 2, none⟩ = false := by simp [World.frozen?, hq]
      have hset := heap_setCell_same w' t 2 _ 65 (.slice (some ⟨g, 0, none⟩) (n + 1) cap) hq
      have kS := (Kept.refl [t] w').setCell (p := ⟨t, 2, none⟩) (Or.inl (by simp)) (.slice (some ⟨g, 0, none⟩) (n + 1) cap)
      unfold Oper.wp execOp
      go_simp
      exact hK _ ⟨⟨_, _, rfl, kS.owns h3 (by intro b hb hm; simp [Value.ownBlock] at hb hm; subst hb; exact owns_ne h3 hq (by decide) hm.symm), h8, hset⟩, (i.mono (by simp; intro x hx; right; exact hx)).setCell (Or.inl (by simp)) _⟩)
    ?_
  rintro u0 u1 u2 u3 Y ⟨⟨g, cap, rfl, hO, hlie, hq⟩, kY⟩
  simp only [Act.put, List.setIfInBounds_toArray, List.set_cons_zero, List.set_cons_succ]
  have HO := hide hO
  have HLie := hide hlie
  have HQ := hide hq
  have HKY := hide kY
  have d1 := cell_of_row _ _ 1 _ _ _ hq
  have y1 := frozen_of_row _ _ 1 _ _ hq
  simp at d1
  clear hO hq kY cq hlb HGX HRX HOX hlie
  have hN' : (N : Int) + 1 < 18446744073709551616 := by omega
  have HQ2 := hide (heap_setCell_same _ _ 1 _ _ (.int .u64 ((N : Int) + 1)) (unhide HQ))
  have HK2 := hide ((unhide HKY).setCell (p := ⟨t, 1, none⟩) (Or.inl (by simp)) (.int .u64 ((N : Int) + 1)))
  have HOY := hide ((((Kept.refl [t] Y).setCell (p := ⟨t, 1, none⟩) (Or.inl (by simp)) (.int .u64 ((N : Int) + 1))).owns (unhide HO) (by intro b hb hm; simp [Value.ownBlock] at hb hm; subst hb; exact owns_ne (unhide HO) (unhide HQ) (by decide) hm.symm)))
  go_wp2_with fail
  obtain ⟨Z, hZ⟩ : ∃ Z, Y.setCell ⟨t, 1, none⟩ (.int .u64 ((N : Int) + 1)) = Z := ⟨_, rfl⟩
  rw [hZ] at HQ2 HK2 HOY ⊢
  clear hZ
  have e1 : (N : Int) + 1 = ((N + 1 : Nat) : Int) := by omega
  rw [e1] at HQ2 ⊢
  clear e1
  have HKZ := hide (((unhide HKX).mono (by simp)).trans (unhide HK2) (by intro x hx; left; exact hx) : Kept (t :: v.ownBlock.toList) w Z)
  obtain ⟨m, hcm⟩ := ctz_form (M := N + 1) (by omega) (by omega)
  have HR0 := hide (unhide HST Z g cap (unhide HKZ) (unhide HV0) (unhide HT0) (by simpa using unhide HQ2) (unhide HOY) (unhide HLie))
  have HFI := hide (fun front top g1 cap1 wr (h : PuRel z t (N + 1) base v ps leaf w (Lib.ctz 64 (N + 1)) front top g1 cap1 wr) => h.fin hcm)
  refine (tz64_any (N + 1) Z (by omega) (by omega) (unhide H6w Z ((unhide HKX).mono (by simp) |>.trans (unhide HK2) (by intro x hx; left; exact hx)))).mono ?_
  rintro e w3 ⟨rfl, rfl⟩
  clear hN' d1 y1 HQ HKY HO
  clear HST HOY HQ2 HLie HV0 HT0
  have hc64 := (Lib.lowest_bit 64 (N + 1) (by omega) (by omega)).2
  generalize Lib.ctz 64 (N + 1) = c at hcm HFI hc64 ⊢
  have HCM := hide hcm
  clear hcm
  have hMb : N + 1 ≤ 1000000001 := by omega
  generalize N + 1 = M at HCM HR0 HFI hMb ⊢
  go_wp2_with fail
  go_loopw [30] (fun t30 wr => ∃ (i : Nat) (front : List Pk) (top : Pk) (g1 cap1 : Nat), i ≤ c ∧ t30 = .int .i64 i ∧ Hid (PuRel z t M base v ps leaf w i front top g1 cap1 wr)) (fun t _ => c - (intOf t).toNat)
  case atStart => exact ⟨0, _, _, _, _, Nat.zero_le _, rfl, HR0⟩
  case round =>
    obtain ⟨i, front, top, g1, cap1, hi, rfl, HRL⟩ := hrel
    by_cases hlt : i < c
    · have hlt' : (i : Int) < c := by omega
      obtain ⟨front2, pa, hfr, HF0⟩ := (unhide HRL).facts hw (unhide HCM) hlt
      subst hfr
      have HF := hide HF0
      have cq := HF0.cq
      have cz := HF0.cz
      have htg := HF0.tg
      have hjM := HF0.jM
      have hjc0 := HF0.jc
      have hg1w := HF0.gw
      have hbg1 := HF0.bw
      have Hpa := hide HF0.ra
      have Htop := hide HF0.rt
      have HDGpa := hide HF0.la
      have HDGtop := hide HF0.lt
      have HOpa := hide HF0.oa
      have HOtop := hide HF0.ot
      clear HF0
      obtain ⟨j, hj⟩ : ∃ j, front2.length = j := ⟨_, rfl⟩
      rw [hj] at cq Hpa Htop hjM hjc0
      have hcap : (j : Int) + 2 ≤ 1000000001 := by omega
      have ix0 : ¬ (j : Int) + 1 < 0 := by omega
      have ix1 : ¬ (j : Int) + 2 ≤ j := by omega
      have ix2 : ¬ (j : Int) + 2 ≤ (j : Int) + 1 := by omega
      have wj : IntKind.i64.wrap ((j : Int) + 1) = (j : Int) + 1 := by simp [IntKind.wrap, IntKind.signed, IntKind.bits]; omega
      go_wp2_with fail
      refine wp_pu19 (by kernel_rfl) (by kernel_rfl) (by kernel_rfl) (by kernel_rfl) (by kernel_rfl) (by kernel_rfl) (by kernel_rfl) (by kernel_rfl) (by kernel_rfl) (by kernel_rfl) (by kernel_rfl) (by kernel_rfl) (by kernel_rfl) (by kernel_rfl) (by kernel_rfl) (by kernel_rfl) (by kernel_rfl) (by kernel_rfl) (by kernel_rfl) (by kernel_rfl) (by kernel_rfl) (by kernel_rfl) (by kernel_rfl) (by kernel_rfl) (by kernel_rfl) (by kernel_rfl) (by kernel_rfl) (by kernel_rfl) (by kernel_rfl) (by kernel_rfl) (by kernel_rfl) (by kernel_rfl) (by kernel_rfl) (by kernel_rfl) (by kernel_rfl) (by kernel_rfl) (by kernel_rfl) (by kernel_rfl) rfl rfl rfl rfl (by simp)
        (Value.pointer (some ⟨t, 0, none⟩)) (Value.pointer (some ⟨t, 0, none⟩)) (Value.pointer (some ⟨t, 2, none⟩)) (Value.slice (some ⟨g1, 0, none⟩) (j + 2) cap1) (.int .i64 (j : Int)) (.pointer (some ⟨g1, j * 33, none⟩)) (Value.agg (partC pa.s pa.k).toArray) (Value.pointer (some ⟨t, 0, none⟩)) (Value.pointer (some ⟨t, 0, none⟩)) (Value.pointer (some ⟨t, 2, none⟩)) (Value.slice (some ⟨g1, 0, none⟩) (j + 2) cap1) (.int .i64 (j : Int)) (.int .i64 ((j : Int) + 1)) (.pointer (some ⟨g1, (j + 1) * 33, none⟩)) (Value.agg (partC top.s top.k).toArray) _ _ _ _ _ _ _ _ _ _ _ _ _ _ _
        (fun w' => Kept [] wr w')
        (fun w' => Kept [] wr w')
        (fun u w' => ∃ gl, u = .pointer (some ⟨gl, 0, none⟩) ∧ wr.heap.size ≤ gl ∧ w'.heap[gl]? = some (.cells zP 75 (0, 0)) ∧ Kept [] wr w')
        (fun u w' => ∃ gl, u = .pointer (some ⟨gl, 0, none⟩) ∧ wr.heap.size ≤ gl ∧ w'.heap[gl]? = some (.cells zP 75 (0, 0)) ∧ Kept [] wr w')
        (fun u u' w' => ∃ gl gr, u = .pointer (some ⟨gl, 0, none⟩) ∧ u' = .pointer (some ⟨gr, 0, none⟩) ∧ gl ≠ gr ∧ wr.heap.size ≤ gl ∧ wr.heap.size ≤ gr ∧ w'.heap[gl]? = some (.cells zP 75 (0, 0)) ∧ w'.heap[gr]? = some (.cells zP 75 (0, 0)) ∧ Kept [] wr w')
        (fun u u' _ w' => ∃ gl gr, u = .pointer (some ⟨gl, 0, none⟩) ∧ u' = .pointer (some ⟨gr, 0, none⟩) ∧ gl ≠ gr ∧ wr.heap.size ≤ gl ∧ wr.heap.size ≤ gr ∧ w'.heap[gl]? = some (.cells (partC pa.s pa.k).toArray 75 (0, 0)) ∧ w'.heap[gr]? = some (.cells zP 75 (0, 0)) ∧ Kept [] wr w')
        (fun u u' _ _ w' => ∃ gl gr, u = .pointer (some ⟨gl, 0, none⟩) ∧ u' = .pointer (some ⟨gr, 0, none⟩) ∧ gl ≠ gr ∧ wr.heap.size ≤ gl ∧ wr.heap.size ≤ gr ∧ w'.heap[gl]? = some (.cells (partC pa.s pa.k).toArray 75 (0, 0)) ∧ w'.heap[gr]? = some (.cells (partC top.s top.k).toArray 75 (0, 0)) ∧ Kept [] wr w')
        (by simp only [Act.put, List.setIfInBounds_toArray, List.set_cons_zero, List.set_cons_succ]; rfl) (by exact Or.inl ⟨by rfl, fun W' hW' => by go_simp⟩)
        (by simp only [Act.put, List.setIfInBounds_toArray, List.set_cons_zero, List.set_cons_succ]; rfl) (by exact Or.inl ⟨by rfl, fun W' hW' => by go_simp⟩)
        (by simp only [Act.put, List.setIfInBounds_toArray, List.set_cons_zero, List.set_cons_succ]; rfl) (by exact Or.inl ⟨by rfl, fun W' hW' => by go_simp⟩)
        (by simp only [Act.put, List.setIfInBounds_toArray, List.set_cons_zero, List.set_cons_succ]; rfl) (by exact Or.inl ⟨by rfl, fun W' hW' => by have h9 := hW'.cell cq (by simp); go_simp⟩)
        (by simp only [Act.put, List.setIfInBounds_toArray, List.set_cons_zero, List.set_cons_succ]; rfl) (by exact Or.inl ⟨by rfl, fun W' hW' => by go_simp⟩)
        (by simp only [Act.put, List.setIfInBounds_toArray, List.set_cons_zero, List.set_cons_succ]; rfl) (by exact Or.inl ⟨by rfl, fun W' hW' => by go_simp⟩)
        (by simp only [Act.put, List.setIfInBounds_toArray, List.set_cons_zero, List.set_cons_succ]; rfl) (by
          refine Or.inl ⟨by rfl, fun W' hW' => ?_⟩
          have h9 := run_loadVar_mid (P := Tryd.prog) W' g1 (j * 33) 75 (partC pa.s pa.k) _ (fun k u hk => hW'.cell (unhide Hpa k u hk) (by simp)) Tryd.underlying75 rfl (by rw [partC_len (unhide HDGpa)]; exact size_part)
          unfold execOp
          simp only [Instr.loadAt, Instr.sureAddr, Sem.run_bind, Sem.run_pure, Result.andThen_ok]
          change ((Sem.run Tryd.prog (loadVar 75 ⟨g1, j * 33, none⟩) W').andThen fun a w' => Result.ok (Next.value a) w') = _
          rw [h9]
          rfl)
        (by simp only [Act.put, List.setIfInBounds_toArray, List.set_cons_zero, List.set_cons_succ]; rfl) (by exact Or.inl ⟨by rfl, fun W' hW' => by go_simp⟩)
        (by simp only [Act.put, List.setIfInBounds_toArray, List.set_cons_zero, List.set_cons_succ]; rfl) (by exact Or.inl ⟨by rfl, fun W' hW' => by go_simp⟩)
        (by simp only [Act.put, List.setIfInBounds_toArray, List.set_cons_zero, List.set_cons_succ]; rfl) (by exact Or.inl ⟨by rfl, fun W' hW' => by go_simp⟩)
        (by simp only [Act.put, List.setIfInBounds_toArray, List.set_cons_zero, List.set_cons_succ]; rfl) (by exact Or.inl ⟨by rfl, fun W' hW' => by have h9 := hW'.cell cq (by simp); go_simp⟩)
        (by simp only [Act.put, List.setIfInBounds_toArray, List.set_cons_zero, List.set_cons_succ]; rfl) (by exact Or.inl ⟨by rfl, fun W' hW' => by go_simp⟩)
        (by simp only [Act.put, List.setIfInBounds_toArray, List.set_cons_zero, List.set_cons_succ]; rfl) (by exact Or.inl ⟨by rfl, fun W' hW' => by go_simp⟩)
        (by simp only [Act.put, List.setIfInBounds_toArray, List.set_cons_zero, List.set_cons_succ]; rfl) (by exact Or.inl ⟨by rfl, fun W' hW' => by go_simp⟩)
        (by simp only [Act.put, List.setIfInBounds_toArray, List.set_cons_zero, List.set_cons_succ]; rfl) (by
          refine Or.inl ⟨by rfl, fun W' hW' => ?_⟩
          have h9 := run_loadVar_mid (P := Tryd.prog) W' g1 ((j + 1) * 33) 75 (partC top.s top.k) _ (fun k u hk => hW'.cell (unhide Htop k u hk) (by simp)) Tryd.underlying75 rfl (by rw [partC_len (unhide HDGtop)]; exact size_part)
          unfold execOp
          simp only [Instr.loadAt, Instr.sureAddr, Sem.run_bind, Sem.run_pure, Result.andThen_ok]
          change ((Sem.run Tryd.prog (loadVar 75 ⟨g1, (j + 1) * 33, none⟩) W').andThen fun a w' => Result.ok (Next.value a) w') = _
          rw [h9]
          rfl)
        (Kept.refl [] wr).drew
        ⟨fun w' h => h, fun u w' ⟨gl, _, _, _, k⟩ => k, fun u w' ⟨gl, _, _, _, k⟩ => k, fun u u' w' ⟨gl, gr, _, _, _, _, _, _, _, k⟩ => k, fun u u' _ w' ⟨gl, gr, _, _, _, _, _, _, _, k⟩ => k, fun u u' _ _ w' ⟨gl, gr, _, _, _, _, _, _, _, k⟩ => k⟩
        (by intro w' i K hK; unfold Oper.wp execOp; go_simp; exact hK _ _ ⟨_, rfl, i.size, heap_alloc_new w' (.cells zP 75), i.alloc _⟩)
        (by intro w' i K hK; unfold Oper.wp execOp; go_simp; exact hK _ _ ⟨_, rfl, i.size, heap_alloc_new w' (.cells zP 75), i.alloc _⟩)
        (by rintro u w' ⟨gl, rfl, h1, h2, i⟩ K hK; unfold Oper.wp execOp; go_simp; exact hK _ _ ⟨gl, _, rfl, rfl, by have := lt_of_block h2; omega, h1, i.size, ((Kept.refl [] w').alloc (.cells zP 75)).heap h2 (by simp), heap_alloc_new w' (.cells zP 75), i.alloc _⟩)
        (by rintro u w' ⟨gr, rfl, h1, h2, i⟩ K hK; unfold Oper.wp execOp; go_simp; exact hK _ _ ⟨_, gr, rfl, rfl, by have := lt_of_block h2; omega, i.size, h1, heap_alloc_new w' (.cells zP 75), ((Kept.refl [] w').alloc (.cells zP 75)).heap h2 (by simp), i.alloc _⟩)
        (by
          rintro u u' w' ⟨gl, gr, rfl, rfl, hne, h1, h2, h3, h4, i⟩ K hK
          exact wp_store_row 75 _ _ rfl gl (partC pa.s pa.k).toArray rfl rfl _ zP h3 (by rw [List.size_toArray, partC_len (unhide HDGpa)]; exact size_part) (by rw [zP_size, List.size_toArray, partC_len (unhide HDGpa)]) (unhide HOpa) (hK _ _ ⟨gl, gr, rfl, rfl, hne, h1, h2, setRow_heap _ _ _ _ _ _ h3, (setRow_other w' gl gr _ (fun e => hne e.symm)).trans h4, i.setRow (Or.inr h1) _⟩))
        (by
          rintro u u' u17 w' ⟨gl, gr, rfl, rfl, hne, h1, h2, h3, h4, i⟩ K hK
          exact wp_store_row 75 _ _ rfl gr (partC top.s top.k).toArray rfl rfl _ zP h4 (by rw [List.size_toArray, partC_len (unhide HDGtop)]; exact size_part) (by rw [zP_size, List.size_toArray, partC_len (unhide HDGtop)]) (unhide HOtop) (hK _ _ ⟨gl, gr, rfl, rfl, hne, h1, h2, (setRow_other w' gr gl _ hne).trans h3, setRow_heap _ _ _ _ _ _ h4, i.setRow (Or.inr h2) _⟩))
        ?_
      rintro u15 u16 u17 u18 W6 ⟨gl, gr, rfl, rfl, hne, hgl, hgr, hL6, hR6, k6⟩
      simp only [Act.put, List.setIfInBounds_toArray, List.set_cons_zero, List.set_cons_succ]
      go_wp2_with fail
      have cq6 : W6.cell? ⟨t, 2, none⟩ = some (Value.slice (some ⟨g1, 0, none⟩) (j + 2) cap1) := k6.cell cq (by simp)
      have cz6 : W6.cell? ⟨t, 0, none⟩ = some (.int .i64 z) := k6.cell cz (by simp)
      have hgl1 : ¬ gl = g1 := by omega
      have hgr1 : ¬ gr = g1 := by omega
      have hg1W : g1 < W6.heap.size := Nat.lt_of_lt_of_le hg1w k6.size
      have HLp := hide (range_rowV hL6 : W6.rangeAt gl 0 (partC pa.s pa.k))
      have HRp := hide (range_rowV hR6 : W6.rangeAt gr 0 (partC top.s top.k))
      have HLs := hide (range_part (unhide HLp) : W6.rangeAt gl 0 (pa.s.map u8))
      have HRs := hide (range_part (unhide HRp) : W6.rangeAt gr 0 (top.s.map u8))
      have HT6 := hide (k6.heap (unhide HRL).row (by simp))
      have HO6 := hide (k6.owns (owns_front (unhide HRL).own hj (unhide HF).la (unhide HF).lt (fun p hp => ((unhide HRL).pa p (by simp [hp])).dg.1)) (by simp))
      simp only [List.length_append, List.length_cons, List.length_nil, Nat.zero_add, hj, Nat.add_assoc, Nat.reduceAdd] at HT6
      have hbW : base ≤ W6.heap.size := by omega
      have HK6 := hide k6
      have HOV := hide (fun (w' : World) (k : Kept [] W6 w') => overT_any z pa.s top.s w' hw (unhide HF).da (unhide HF).dt (unhide HF).fa (unhide HF).ft (unhide HTw w' (((unhide HRL).kept.trans k6 (by simp)).trans k (by simp))))
      clear k6 hL6 hR6
      have hjc : (j : Int) ≤ cap1 := by omega
      have hj0 : ¬ (j : Int) < 0 := by omega
      refine wp_pu26 (by kernel_rfl) (by kernel_rfl) (by kernel_rfl) (by kernel_rfl) (by kernel_rfl) (by kernel_rfl) (by kernel_rfl) (by kernel_rfl) (by kernel_rfl) (by kernel_rfl) (by kernel_rfl) (by kernel_rfl) (by kernel_rfl) (by kernel_rfl) (by kernel_rfl) (by kernel_rfl) (by kernel_rfl) (by kernel_rfl) (by kernel_rfl) (by kernel_rfl) (by kernel_rfl) (by kernel_rfl) (by kernel_rfl) (by kernel_rfl) (by kernel_rfl) (by kernel_rfl) (by kernel_rfl) (by kernel_rfl) (by kernel_rfl) (by kernel_rfl) (by kernel_rfl) (by kernel_rfl) (by kernel_rfl) (by kernel_rfl) (by kernel_rfl) (by kernel_rfl) (by kernel_rfl) (by kernel_rfl) (by kernel_rfl) (by kernel_rfl) (by kernel_rfl) (by kernel_rfl) (by kernel_rfl) (by kernel_rfl) (by kernel_rfl) (by kernel_rfl) (by kernel_rfl) (by kernel_rfl) (by kernel_rfl) (by kernel_rfl) (by kernel_rfl) (by kernel_rfl) (by kernel_rfl) (by kernel_rfl) (by kernel_rfl) (by kernel_rfl) (by kernel_rfl) (by kernel_rfl) (by kernel_rfl) rfl rfl (by simp) (by kernel_rfl) rfl (by kernel_rfl) rfl (by kernel_rfl) rfl (by kernel_rfl) rfl (by kernel_rfl) rfl (by kernel_rfl) rfl (by kernel_rfl)
        (Value.pointer (some ⟨t, 0, none⟩)) (Value.pointer (some ⟨t, 0, none⟩)) (Value.pointer (some ⟨t, 0, none⟩)) (Value.pointer (some ⟨t, 2, none⟩)) (Value.slice (some ⟨g1, 0, none⟩) (j + 2) cap1) (.int .i64 (j : Int)) (.slice (some ⟨g1, 0, none⟩) j cap1) (Value.pointer (some ⟨t, 0, none⟩)) (Value.pointer (some ⟨t, 0, none⟩)) (.pointer (some ⟨t, 0, none⟩)) (.int .i64 z) (.pointer (some ⟨gl, 0, none⟩)) (.agg (brow pa.s)) (.pointer (some ⟨gr, 0, none⟩)) (.agg (brow top.s)) (.agg (partC pa.s pa.k).toArray) (.agg (partC top.s top.k).toArray) (.agg (partC pa.s pa.k ++ partC top.s top.k).toArray) _ _ _ _ _ _ _ _ _ _ _ _ _ _ _ _ _ _
        (fun w' => Kept [g1] W6 w')
        (fun w' => Kept [] W6 w')
        (fun u0 w' => u0 = .agg (brow (nodT z pa.s top.s)) ∧ Kept [] W6 w')
        (fun u1 w' => (∃ gk, u1 = .pointer (some ⟨gk, 0, none⟩) ∧ W6.heap.size ≤ gk ∧ w'.heap[gk]? = some (.cells (partC pa.s pa.k ++ partC top.s top.k).toArray 90 (0, 0))) ∧ Kept [] W6 w')
        (fun u0 u1 w' => u0 = .agg (brow (nodT z pa.s top.s)) ∧ (∃ gk, u1 = .pointer (some ⟨gk, 0, none⟩) ∧ W6.heap.size ≤ gk ∧ w'.heap[gk]? = some (.cells (partC pa.s pa.k ++ partC top.s top.k).toArray 90 (0, 0))) ∧ Kept [] W6 w')
        (fun u0 u1 u2 w' => (∃ gk, u1 = .pointer (some ⟨gk, 0, none⟩) ∧ W6.heap.size ≤ gk ∧ w'.heap[gk]? = some (.cells (partC pa.s pa.k ++ partC top.s top.k).toArray 90 (0, 0)) ∧ u2 = .agg (partC (nodT z pa.s top.s) (.pointer (some ⟨gk, 0, none⟩))).toArray) ∧ Kept [] W6 w')
        (fun u0 u1 u2 u3 w' => (∃ gk, u1 = .pointer (some ⟨gk, 0, none⟩) ∧ W6.heap.size ≤ gk ∧ w'.heap[gk]? = some (.cells (partC pa.s pa.k ++ partC top.s top.k).toArray 90 (0, 0)) ∧ ∃ H, u3 = .slice (some ⟨H, 0, none⟩) 1 1 ∧ w'.heap[H]? = some (.cells (partC (nodT z pa.s top.s) (.pointer (some ⟨gk, 0, none⟩))).toArray 75 (0, 0))) ∧ Kept [] W6 w')
        (fun u0 u1 u2 u3 u4 w' => (∃ gk, u1 = .pointer (some ⟨gk, 0, none⟩) ∧ W6.heap.size ≤ gk ∧ w'.heap[gk]? = some (.cells (partC pa.s pa.k ++ partC top.s top.k).toArray 90 (0, 0)) ∧ (∃ g2 cap2, u4 = .slice (some ⟨g2, 0, none⟩) (j + 1) cap2 ∧ w'.ownsRow base 75 33 (.slice (some ⟨g2, 0, none⟩) (j + 1) cap2) (j + 1) (cellsK front2 ++ partC (nodT z pa.s top.s) (.pointer (some ⟨gk, 0, none⟩))) ∧ (g2 = g1 ∨ W6.heap.size ≤ g2))) ∧ Kept [g1] W6 w')
        (fun u0 u1 u2 u3 u4 u5 w' => u5 = (Value.pointer (some ⟨t, 0, none⟩)) ∧ (∃ gk, u1 = .pointer (some ⟨gk, 0, none⟩) ∧ W6.heap.size ≤ gk ∧ w'.heap[gk]? = some (.cells (partC pa.s pa.k ++ partC top.s top.k).toArray 90 (0, 0)) ∧ (∃ g2 cap2, u4 = .slice (some ⟨g2, 0, none⟩) (j + 1) cap2 ∧ w'.ownsRow base 75 33 (.slice (some ⟨g2, 0, none⟩) (j + 1) cap2) (j + 1) (cellsK front2 ++ partC (nodT z pa.s top.s) (.pointer (some ⟨gk, 0, none⟩))) ∧ (g2 = g1 ∨ W6.heap.size ≤ g2))) ∧ Kept [g1] W6 w')
        (fun u0 u1 u2 u3 u4 u5 u6 w' => u6 = (Value.pointer (some ⟨t, 2, none⟩)) ∧ u5 = (Value.pointer (some ⟨t, 0, none⟩)) ∧ (∃ gk, u1 = .pointer (some ⟨gk, 0, none⟩) ∧ W6.heap.size ≤ gk ∧ w'.heap[gk]? = some (.cells (partC pa.s pa.k ++ partC top.s top.k).toArray 90 (0, 0)) ∧ (∃ g2 cap2, u4 = .slice (some ⟨g2, 0, none⟩) (j + 1) cap2 ∧ w'.ownsRow base 75 33 (.slice (some ⟨g2, 0, none⟩) (j + 1) cap2) (j + 1) (cellsK front2 ++ partC (nodT z pa.s top.s) (.pointer (some ⟨gk, 0, none⟩))) ∧ (g2 = g1 ∨ W6.heap.size ≤ g2))) ∧ Kept [g1] W6 w')
        (fun u0 u1 u2 u3 u4 u5 u6 w' => (∃ gk, u1 = .pointer (some ⟨gk, 0, none⟩) ∧ W6.heap.size ≤ gk ∧ w'.heap[gk]? = some (.cells (partC pa.s pa.k ++ partC top.s top.k).toArray 90 (0, 0)) ∧ (∃ g2 cap2, u4 = .slice (some ⟨g2, 0, none⟩) (j + 1) cap2 ∧ w'.ownsRow base 75 33 (.slice (some ⟨g2, 0, none⟩) (j + 1) cap2) (j + 1) (cellsK front2 ++ partC (nodT z pa.s top.s) (.pointer (some ⟨gk, 0, none⟩))) ∧ (g2 = g1 ∨ W6.heap.size ≤ g2) ∧ w'.heap[t]? = some (.cells #[.int .i64 z, .int .u64 (M : Int), .slice (some ⟨g2, 0, none⟩) (j + 1) cap2] 65 (0, 0)))) ∧ Kept [t, g1] W6 w')
        (by simp only [Act.put, List.setIfInBounds_toArray, List.set_cons_zero, List.set_cons_succ]; rfl) (by exact Or.inl ⟨by rfl, fun W' hW' => by go_simp⟩)
        (by simp only [Act.put, List.setIfInBounds_toArray, List.set_cons_zero, List.set_cons_succ]; rfl) (by exact Or.inl ⟨by rfl, fun W' hW' => by go_simp⟩)
        (by simp only [Act.put, List.setIfInBounds_toArray, List.set_cons_zero, List.set_cons_succ]; rfl) (by exact Or.inl ⟨by rfl, fun W' hW' => by go_simp⟩)
        (by simp only [Act.put, List.setIfInBounds_toArray, List.set_cons_zero, List.set_cons_succ]; rfl) (by exact Or.inl ⟨by rfl, fun W' hW' => by go_simp⟩)
        (by simp only [Act.put, List.setIfInBounds_toArray, List.set_cons_zero, List.set_cons_succ]; rfl) (by exact Or.inl ⟨by rfl, fun W' hW' => by have h9 := hW'.cell cq6 (by simpa using htg); go_simp⟩)
        (by simp only [Act.put, List.setIfInBounds_toArray, List.set_cons_zero, List.set_cons_succ]; rfl) (by exact Or.inl ⟨by rfl, fun W' hW' => by go_simp⟩)
        (by simp only [Act.put, List.setIfInBounds_toArray, List.set_cons_zero, List.set_cons_succ]; rfl) (by exact Or.inl ⟨by rfl, fun W' hW' => by go_simp⟩)
        (by simp only [Act.put, List.setIfInBounds_toArray, List.set_cons_zero, List.set_cons_succ]; rfl) (by exact Or.inl ⟨by rfl, fun W' hW' => by go_simp⟩)
        (by simp only [Act.put, List.setIfInBounds_toArray, List.set_cons_zero, List.set_cons_succ]; rfl) (by exact Or.inl ⟨by rfl, fun W' hW' => by go_simp⟩)
        (by simp only [Act.put, List.setIfInBounds_toArray, List.set_cons_zero, List.set_cons_succ]; rfl) (by exact Or.inl ⟨by rfl, fun W' hW' => by go_simp⟩)
        (by simp only [Act.put, List.setIfInBounds_toArray, List.set_cons_zero, List.set_cons_succ]; rfl) (by exact Or.inl ⟨by rfl, fun W' hW' => by have h9 := hW'.cell cz6 (by simpa using htg); go_simp⟩)
        (by simp only [Act.put, List.setIfInBounds_toArray, List.set_cons_zero, List.set_cons_succ]; rfl) (by exact Or.inl ⟨by rfl, fun W' hW' => by go_simp⟩)
        (by simp only [Act.put, List.setIfInBounds_toArray, List.set_cons_zero, List.set_cons_succ]; rfl) (by
          refine Or.inl ⟨by rfl, fun W' hW' => ?_⟩
          have h9 := run_loadVar_mid (P := Tryd.prog) W' gl 0 41 (pa.s.map u8) _ (fun k u hk => hW'.cell (unhide HLs k u hk) (by simpa using hgl1)) Tryd.underlying41 rfl (by rw [List.length_map, unhide HDGpa]; exact Tryd.size_dig)
          unfold execOp
          simp only [Instr.loadAt, Instr.sureAddr, Sem.run_bind, Sem.run_pure, Result.andThen_ok]
          change ((Sem.run Tryd.prog (loadVar 41 ⟨gl, 0, none⟩) W').andThen fun a w' => Result.ok (Next.value a) w') = _
          rw [h9]
          rfl)
        (by simp only [Act.put, List.setIfInBounds_toArray, List.set_cons_zero, List.set_cons_succ]; rfl) (by exact Or.inl ⟨by rfl, fun W' hW' => by go_simp⟩)
        (by simp only [Act.put, List.setIfInBounds_toArray, List.set_cons_zero, List.set_cons_succ]; rfl) (by
          refine Or.inl ⟨by rfl, fun W' hW' => ?_⟩
          have h9 := run_loadVar_mid (P := Tryd.prog) W' gr 0 41 (top.s.map u8) _ (fun k u hk => hW'.cell (unhide HRs k u hk) (by simpa using hgr1)) Tryd.underlying41 rfl (by rw [List.length_map, unhide HDGtop]; exact Tryd.size_dig)
          unfold execOp
          simp only [Instr.loadAt, Instr.sureAddr, Sem.run_bind, Sem.run_pure, Result.andThen_ok]
          change ((Sem.run Tryd.prog (loadVar 41 ⟨gr, 0, none⟩) W').andThen fun a w' => Result.ok (Next.value a) w') = _
          rw [h9]
          rfl)
        (by simp only [Act.put, List.setIfInBounds_toArray, List.set_cons_zero, List.set_cons_succ]; rfl) (by
          refine Or.inl ⟨by rfl, fun W' hW' => ?_⟩
          have h9 := run_loadVar_mid (P := Tryd.prog) W' gl 0 75 (partC pa.s pa.k) _ (fun k u hk => hW'.cell (unhide HLp k u hk) (by simpa using hgl1)) Tryd.underlying75 rfl (by rw [partC_len (unhide HDGpa)]; exact size_part)
          unfold execOp
          simp only [Instr.loadAt, Instr.sureAddr, Sem.run_bind, Sem.run_pure, Result.andThen_ok]
          change ((Sem.run Tryd.prog (loadVar 75 ⟨gl, 0, none⟩) W').andThen fun a w' => Result.ok (Next.value a) w') = _
          rw [h9]
          rfl)
        (by simp only [Act.put, List.setIfInBounds_toArray, List.set_cons_zero, List.set_cons_succ]; rfl) (by
          refine Or.inl ⟨by rfl, fun W' hW' => ?_⟩
          have h9 := run_loadVar_mid (P := Tryd.prog) W' gr 0 75 (partC top.s top.k) _ (fun k u hk => hW'.cell (unhide HRp k u hk) (by simpa using hgr1)) Tryd.underlying75 rfl (by rw [partC_len (unhide HDGtop)]; exact size_part)
          unfold execOp
          simp only [Instr.loadAt, Instr.sureAddr, Sem.run_bind, Sem.run_pure, Result.andThen_ok]
          change ((Sem.run Tryd.prog (loadVar 75 ⟨gr, 0, none⟩) W').andThen fun a w' => Result.ok (Next.value a) w') = _
          rw [h9]
          rfl)
        (by simp only [Act.put, List.setIfInBounds_toArray, List.set_cons_zero, List.set_cons_succ]; rfl) (by
          refine Or.inl ⟨by rfl, fun W' hW' => ?_⟩
          have l1 := partC_len (k := pa.k) (unhide HDGpa)
          have l2 := partC_len (k := top.k) (unhide HDGtop)
          have hf := pair_fold (partC pa.s pa.k) (partC top.s top.k) l1 l2
          have hz : ¬ (List.foldl (fun cs x => cs.setIfInBounds x.snd x.fst) Tryd.zeroCells90 (partC pa.s pa.k).zipIdx).size < 66 := by rw [fold_size, z87_size]; omega
          unfold execOp
          go_simp)
        (Kept.refl [] W6).drew
        ⟨fun w' h => h.mono (by simp), fun u0 w' h => h.2.mono (by simp), fun u1 w' h => h.2.mono (by simp), fun u0 u1 w' h => h.2.2.mono (by simp), fun u0 u1 u2 w' h => h.2.mono (by simp), fun u0 u1 u2 u3 w' h => h.2.mono (by simp), fun u0 u1 u2 u3 u4 w' h => h.2, fun u0 u1 u2 u3 u4 u5 w' h => h.2.2, fun u0 u1 u2 u3 u4 u5 u6 w' h => h.2.2.2⟩
        (by intro w' i K hK; exact wp_callN rfl Tryd.call53 [.int .i64 z, .agg (brow pa.s), .agg (brow top.s)] rfl (unhide HOV w' i) (fun e w2 h => ⟨_, h.1, hK _ _ ⟨rfl, i.trans h.2 (by simp)⟩⟩))
        (by intro w' i K hK; unfold Oper.wp execOp; go_simp; exact hK _ _ ⟨⟨_, rfl, i.size, heap_alloc_new _ _⟩, i.alloc _⟩)
        (by rintro u0 w' ⟨rfl, i⟩ K hK; unfold Oper.wp execOp; go_simp; exact hK _ _ ⟨rfl, ⟨_, rfl, i.size, heap_alloc_new _ _⟩, i.alloc _⟩)
        (by rintro u1 w' ⟨⟨gk, rfl, h1, h2⟩, i⟩ K hK; exact wp_callN rfl Tryd.call53 [.int .i64 z, .agg (brow pa.s), .agg (brow top.s)] rfl (unhide HOV w' i) (fun e w2 h => ⟨_, h.1, hK _ _ ⟨rfl, ⟨gk, rfl, h1, h.2.heap h2 (by simp)⟩, i.trans h.2 (by simp)⟩⟩))
        (by
          intro u0 u1 w' hh K hK
          simp only [Act.put, List.setIfInBounds_toArray, List.set_cons_zero, List.set_cons_succ] at hK ⊢
          obtain ⟨rfl, ⟨gk, rfl, h1, h2⟩, i⟩ := hh
          exact wp_build_part _ _ rfl (nodT z pa.s top.s) (.pointer (some ⟨gk, 0, none⟩)) (nodS_dg z pa.s top.s).1 rfl rfl rfl (hK _ _ ⟨⟨gk, rfl, h1, h2, rfl⟩, i⟩))
        (by
          intro u0 u1 u2 w' hh K hK
          simp only [Act.put, List.setIfInBounds_toArray, List.set_cons_zero, List.set_cons_succ] at hK ⊢
          obtain ⟨⟨gk, rfl, h1, h2, rfl⟩, i⟩ := hh
          have hnl : (nodT z pa.s top.s).length = 32 := (nodS_dg z pa.s top.s).1
          have hp33 := partC_len (k := .pointer (some ⟨gk, 0, none⟩)) hnl
          have hb1 := hide (build_one (nodT z pa.s top.s) (.pointer (some ⟨gk, 0, none⟩)) hnl)
          unfold Oper.wp execOp
          go_simp
          exact hK _ _ ⟨⟨gk, rfl, h1, ((Kept.refl [] w').alloc _).heap h2 (by simp), _, rfl, (heap_alloc_new w' _).trans (by rw [← unhide hb1]; rfl)⟩, i.alloc _⟩)
        (by
          intro u0 u1 u2 u3 w' hh K hK
          simp only [Act.put, List.setIfInBounds_toArray, List.set_cons_zero, List.set_cons_succ] at hK ⊢
          obtain ⟨⟨gk, rfl, h1, h2, H, rfl, hH⟩, i⟩ := hh
          have hnl : (nodT z pa.s top.s).length = 32 := (nodS_dg z pa.s top.s).1
          obtain ⟨g2, cap2, w1, hrun, h3, h4, h5⟩ := pushK w' base (.slice (some ⟨g1, 0, none⟩) j cap1) j (cellsK front2) (nodT z pa.s top.s) (.pointer (some ⟨gk, 0, none⟩)) H (i.owns (unhide HO6) (by simp)) hH hnl rfl (by omega) (Nat.le_trans hbW i.size)
          have k4 : Kept [g1] w' w1 := (Kept.refl [g1] w').grown h4 (by intro k hk; left; simp [Value.ownBlock] at hk; simp [hk])
          exact wp_appendT rfl rfl rfl rfl hrun (hK _ _ ⟨⟨gk, rfl, h1, k4.heap h2 (by simp; omega), g2, cap2, rfl, h3, h5.elim (fun e => Or.inl (by simp [Value.ownBlock] at e; exact e.symm)) (fun e => Or.inr (by have := i.size; omega))⟩, (i.mono (by simp)).trans k4 (by simp)⟩))
        (by
          intro u0 u1 u2 u3 u4 w' hh K hK
          simp only [Act.put, List.setIfInBounds_toArray, List.set_cons_zero, List.set_cons_succ] at hK ⊢
          obtain ⟨⟨gk, rfl, h1, h2, g2, cap2, rfl, h3, h8⟩, i⟩ := hh
          unfold Oper.wp execOp; go_simp; exact hK _ _ ⟨rfl, ⟨gk, rfl, h1, h2, g2, cap2, rfl, h3, h8⟩, i⟩)
        (by
          intro u0 u1 u2 u3 u4 u5 w' hh K hK
          simp only [Act.put, List.setIfInBounds_toArray, List.set_cons_zero, List.set_cons_succ] at hK ⊢
          obtain ⟨rfl, ⟨gk, rfl, h1, h2, g2, cap2, rfl, h3, h8⟩, i⟩ := hh
          unfold Oper.wp execOp; go_simp; exact hK _ _ ⟨rfl, rfl, ⟨gk, rfl, h1, h2, g2, cap2, rfl, h3, h8⟩, i⟩)
        (by
          intro u0 u1 u2 u3 u4 u5 u6 w' hh K hK
          simp only [Act.put, List.setIfInBounds_toArray, List.set_cons_zero, List.set_cons_succ] at hK ⊢
          obtain ⟨rfl, rfl, ⟨gk, rfl, h1, h2, g2, cap2, rfl, h3, h8⟩, i⟩ := hh
          have hq := i.heap (unhide HT6) (by simpa using htg)
          have kS := (Kept.refl [t] w').setCell (p := ⟨t, 2, none⟩) (Or.inl (by simp)) (.slice (some ⟨g2, 0, none⟩) (j + 1) cap2)
          have htW := lt_of_block (unhide HT6)
          exact wp_store_t2 _ _ rfl t _ _ ⟨_, _, _, rfl⟩ rfl rfl hq (by simp) (hK _ ⟨⟨gk, rfl, h1, kS.heap h2 (by simp; omega), g2, cap2, rfl, kS.owns h3 (by intro b hb hm; simp [Value.ownBlock] at hb hm; subst hb; exact owns_ne h3 hq (by decide) hm.symm), h8, heap_setCell_same w' t 2 _ 65 (.slice (some ⟨g2, 0, none⟩) (j + 1) cap2) hq⟩, (i.mono (by simp)).setCell (Or.inl (by simp)) _⟩))
        ?_
      rintro u0 u1 u2 u3 u4 u5 u6 W7 ⟨⟨gk, rfl, h1, h2, g2, cap2, rfl, h3, h8, h9⟩, k7⟩
      simp only [Act.put, List.setIfInBounds_toArray, List.set_cons_zero, List.set_cons_succ]
      rw [← hj] at h3 h9
      have HR1 := hide ((unhide HRL).step (unhide HF) (unhide HK6) k7 h1 h2 h3 h9 h8)
      clear h1 h2 h3 h9 h8 k7 HT6 HO6 HOV HLs HRs HLp HRp HK6 HF HRL Hpa Htop cq6 cz6 cq cz
      have hi1 : (i : Int) + 1 < 9223372036854775808 := by omega
      go_wp2_with fail
      refine ⟨⟨i + 1, _, _, _, _, by omega, by simp, HR1⟩, ?_⟩
      simp [intOf]
      omega
    · have hie : i = c := by omega
      subst hie
      have HE := hide (unhide HFI _ _ _ _ _ (unhide HRL))
      go_wp2_with fail
      exact ⟨rfl, _, results_none rfl _ _ _, rfl, unhide HE⟩

end Go.Proofs.YtecadmldnjlibaaDoor
namespace Go.Proofs.YtecadmldnjlibaaDoor
open Go.RowKit Go.BigFrame
set_option linter.unusedVariables false
set_option linter.unusedSimpArgs false

theorem owns_baseK {w : World} {b b' e s n : Nat} {v : Value} {xs : List Value} (h : w.ownsRow b e s v n xs) (hb : b' ≤ b) : w.ownsRow b' e s v n xs := by
  refine ⟨h.1, ?_⟩
  rcases h.2 with h9 | ⟨g, cap, cur, h1, h2, h3⟩
  · exact .inl h9
  · exact .inr ⟨g, cap, cur, h1, Nat.le_trans hb h2, h3⟩
/-- Append within: so many leaves are laid behind. -/
structure AppI (z : Int) (ps : List Pk) (ls : List (List Nat)) (w : World) (t base i : Nat) (v : Value) (qs : List Pk) (wr : World) : Prop where
  row : wr.heap[t]? = some (.cells #[.int .i64 z, .int .u64 (((leavesK ps).length + i : Nat) : Int), v] 65 (0, 0))
  own : wr.ownsRow base 75 33 v qs.length (cellsK qs)
  pk : PKs z wr qs
  lv : leavesK qs = leavesK ps ++ ls.take i
  nil : qs = [] → v = .slice none 0 0
  kept : Kept [] w wr
  bw : w.heap.size ≤ base
  bt : w.heap.size ≤ t
  br : base ≤ wr.heap.size
theorem AppI.far {z : Int} {ps : List Pk} {ls : List (List Nat)} {w : World} {t base i : Nat} {v : Value} {qs : List Pk} {wr : World} (h : AppI z ps ls w t base i v qs wr) (hT : Tabs w) (h6 : Tab6 w) : Far t v := by
  have e1 := block_lt_of_cell (hT.1 0 (by decide))
  have e2 := block_lt_of_cell (hT.2 0 (by decide))
  have e3 := block_lt_of_cell (h6 0 (by decide))
  simp only at e1 e2 e3
  intro b hb
  have hbb : w.heap.size ≤ b := by
    simp only [List.mem_cons, Option.mem_toList] at hb
    rcases hb with rfl | hb
    · exact h.bt
    · exact Nat.le_trans h.bw (h.own.lt b hb).1
  refine ⟨?_, ?_, ?_⟩ <;> omega
theorem AppI.len {z : Int} {ps : List Pk} {ls : List (List Nat)} {w : World} {t base i : Nat} {v : Value} {qs : List Pk} {wr : World} (h : AppI z ps ls w t base i v qs wr) (hi : i ≤ ls.length) : (leavesK ps).length + i = (leavesK qs).length := by
  rw [h.lv, List.length_append, List.length_take, Nat.min_eq_left hi]
theorem AppI.step {z : Int} {ps : List Pk} {ls : List (List Nat)} {w : World} {t base i : Nat} {v : Value} {qs : List Pk} {wr wa w' : World} (h : AppI z ps ls w t base i v qs wr) (hi : i < ls.length) (ka : Kept [] wr wa) (hp : PushD z t ((leavesK ps).length + i) base v qs (ls.getD i []) wa w') : ∃ v' rs, AppI z ps ls w t base (i + 1) v' rs w' := by
  obtain ⟨g, cap, rs, h1, h2, h3, h4, h5, h6, h7⟩ := hp
  refine ⟨_, rs, h1, h2, h3, ?_, fun e => absurd e h5, ?_, h.bw, h.bt, Nat.le_trans h.br (Nat.le_trans ka.size h6.size)⟩
  · rw [h4, h.lv, List.append_assoc, List.take_succ_eq_append_getElem hi, List.getD_eq_getElem?_getD, List.getElem?_eq_getElem hi]; rfl
  · refine (h.kept.trans ka (by simp)).trans h6 ?_
    intro x hx
    right
    simp only [List.mem_cons, Option.mem_toList] at hx
    rcases hx with rfl | hx
    · exact h.bt
    · exact Nat.le_trans h.bw (h.own.lt x hx).1
theorem owns_rdK {w : World} {base : Nat} {v : Value} {ps : List Pk} (h : w.ownsRow base 75 33 v ps.length (cellsK ps)) : RdK3 w v ps := by
  rcases id h.2 with ⟨h9, h1⟩ | ⟨g, cap, cur, h1, h2⟩
  · subst h9
    exact ⟨none, 0, by rw [h1], by omega, by omega, fun h => by omega⟩
  · subst h1
    exact owns_rd h rfl
theorem AppI.fin {z : Int} {ps : List Pk} {ls : List (List Nat)} {w : World} {t base : Nat} {v : Value} {qs : List Pk} {wr : World} (h : AppI z ps ls w t base ls.length v qs wr) (hw : widthB z = true) : TreeAt z wr t v qs ∧ leavesK qs = leavesK ps ++ ls := by
  have h1 := h.len (Nat.le_refl _)
  have h2 := h.row
  rw [h1] at h2
  exact ⟨⟨h2, hw, owns_rdK h.own, h.pk⟩, by rw [h.lv, List.take_length]⟩
end Go.Proofs.YtecadmldnjlibaaDoor
namespace Go.Proofs.YtecadmldnjlibaaDoor
open Go.RowKit Go.BigFrame
set_option linter.unusedVariables false
set_option linter.unusedSimpArgs false

/-- Peaks behind an empty row that is owned. -/
theorem appendK (w : World) (base : Nat) (v : Value) (ps : List Pk) (b off c : Nat) (h : w.ownsRow base 75 33 v 0 []) (hr : RdK3 w (.slice (some ⟨b, off, none⟩) ps.length c) ps) (hp : 0 < ps.length) (hlen : (cellsK ps).length = ps.length * 33) (h1 : ∀ u ∈ cellsK ps, u.oneCell' = true) (hl : ps.length ≤ 1000000000) (hb : base ≤ w.heap.size) :
    ∃ g cap w1, (Builtin.append_ #[63, 63] 63 #[v, .slice (some ⟨b, off, none⟩) ps.length c]).run Tryd.prog w = .ok (.slice (some ⟨g, 0, none⟩) ps.length cap) w1 ∧
      w1.ownsRow base 75 33 (.slice (some ⟨g, 0, none⟩) ps.length cap) ps.length (cellsK ps) ∧ w.grownBy w1 v.ownBlock ∧ (v.ownBlock = some g ∨ g = w.heap.size) := by
  obtain ⟨i0, hi, hz0, hz1, hz2⟩ := info_parts Tryd.infoP
  obtain ⟨ao, cap, he, h2, h3, h4⟩ := hr
  cases he
  obtain ⟨b', off', e, hc⟩ := h4 hp
  cases e
  obtain ⟨g, cap, w1, hrun, hown, hgrow, hat, hlt⟩ := run_append_lies (P := Tryd.prog) w 63 63 base 75 i0 (.agg zP) 33 40 Tryd.underlying63 hi hz0 hz1 hz2 rfl (by decide)
    v 0 [] h ⟨b, off, none⟩ ps.length c (cellsK ps) hlen (fun j u hj => by rw [Addr.add_mid]; exact hc j u hj) h1 hp (by unfold maxLen; omega) (by omega) hb _ rfl
  simp only [Nat.zero_add, List.nil_append] at hrun hown
  exact ⟨g, cap, w1, hrun, hown, hgrow, hat⟩

set_option maxRecDepth 100000 in
set_option maxHeartbeats 1000000 in
theorem cloneK_any (z : Int) (v : Value) (ps : List Pk) (w : World) (h : RdK3 w v ps) (hpk : PKs z w ps) (hnil : ps = [] → v = .slice none 0 0) (hl : ps.length ≤ 1000000000) :
    Calls Tryd.prog 35 #[v] w fun e w' => ∃ v', e = .returned v' ∧ w'.ownsRow w.heap.size 75 33 v' ps.length (cellsK ps) ∧ (ps = [] → v' = .slice none 0 0) ∧ Kept [] w w' := by
  by_cases hp : ps = []
  · subst hp
    obtain rfl := hnil rfl
    have hq : ∀ W : World, (binOp .eql 63 (.slice none 0 0) (.slice none 0 0)).run Tryd.prog W = .ok (.bool true) W := by
      intro W
      simp only [binOp]
      simp [run_equal_slice_nil W 63 75 none 0 0 Tryd.underlying63]
    go_enter Tryd.func35, Tryd.ntmps35
    go_wp2_with fail
    go_ret
    exact ⟨_, rfl, ⟨rfl, Or.inl ⟨rfl, rfl⟩⟩, rfl, Kept.refl _ _⟩
  · have hp0 : 0 < ps.length := List.length_pos_iff.2 hp
    have H := hide h
    obtain ⟨a1, c1, rfl, hc1, hc2, hc3⟩ := id h
    obtain ⟨b, off, rfl, _⟩ := hc3 hp0
    clear h hc3
    have HL := hide (cellsK_len' (fun p hp => (hpk.ok p hp).dg.1))
    have H1 := hide (cellsK_one hpk.ok)
    have HO := hide (World.ownsRow_made (base := w.heap.size) (e := 75) (size := 33) w #[] 0 (Nat.le_refl _) (by unfold maxLen; omega) (by simp))
    have hq : ∀ W : World, (binOp .eql 63 (.slice (some ⟨b, off, none⟩) ps.length c1) (.slice none 0 0)).run Tryd.prog W = .ok (.bool false) W := by
      intro W
      simp only [binOp]
      simp [run_equal_slice_nil W 63 75 (some ⟨b, off, none⟩) ps.length c1 Tryd.underlying63]
    obtain ⟨g, cap, w1, hrun, h3, h4, h5⟩ := appendK (w.alloc (.cells #[] 75)) w.heap.size (.slice (some ⟨w.heap.size, 0, none⟩) 0 0) ps b off c1 (unhide HO) ((unhide H).old ((Kept.refl [] w).alloc _)) hp0 (unhide HL) (unhide H1) hl (by simp)
    have HR := hide hrun
    have HO1 := hide h3
    have HK1 := hide (((Kept.refl [] w).alloc _).grown h4 (by intro k hk; right; simp [Value.ownBlock] at hk; omega))
    clear hrun h3 h4 h5 HO hpk hnil
    go_enter Tryd.func35, Tryd.ntmps35
    go_wp2_with (at_builtin; refine wpList_plain rfl fun K hK' => ?_; refine wp_appendT rfl rfl rfl rfl (unhide HR) (hK' _ _ ?_))
    go_ret
    exact ⟨_, rfl, unhide HO1, fun e => absurd e hp, unhide HK1⟩

end Go.Proofs.YtecadmldnjlibaaDoor
